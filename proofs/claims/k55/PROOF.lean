import PyProof.Rows.All
import Wide.All
import OpenK.AllK
import Wide.FinOn
import HandS.ForMost
import HandS.Wide
import HandS.IsInst
import HandS.Exc
import HandS.Flow
import HandS.HeadHook1
import HandS.TupAny
import HandS.TupMul
import HandS.TupLe
import HandS.NoneIn
import KE.GoesEnum
import KE.GoesMore
import KE.SortData
import KE.DataMinMax
import HandS.ExcOwn
import HandS.WordsExc
import HandS.ExcIs
import HandS.AnyAll
import HandS.Comp
import HandS.GenOver
import HandS.GenList
import HandS.HeadWalk
import HandS.HeadHook4
import HandS.Strs
import HandS.SetBool
import PyProof.SetRoads
import HandS.SetKeys
import HandS.SortKw
import PyProof.Rows.CountFlat
import HandS.Zip
import HandS.Iter
import KE.KRevSl
import HandS.Style
import HandS.Conv
import HandS.Deep
import KE.DataFind
import HandS.RaiseMore
import KE.KDictDisplayH
import KE.KDictZip
import HandS.Replace
import HandS.ReplaceLit
import HandS.Text
import HandS.StrMore
import HandS.FStr
import PySem.Challenge.RW_changeride_k55_rides_written
set_option Elab.async false
set_option linter.all false
set_option maxRecDepth 100000
set_option autoImplicit false
namespace DL
open PySem PySem.Spec PyProof.Rows L2

/-! ### data, slots, states -/
abbrev D := PyData
/-- a def's table of code objects, whatever it has gathered by now -/
def TabX (P : Addr) : HO := .ext fun h => ∃ ps : Array Value, h.get? P = some { cls := .none, data := .fields ps } ∧ TriplesOk ps.toList
/-- the tables of the program's defs that hold generator expressions -/
class Tabs where
  T : List Addr
/-- F has the tables -/
def TabF [Tabs] (F : Hp) : Prop := ∀ P ∈ Tabs.T, F P = some (TabX P)
variable [Tabs]
inductive Co where
  | lst (ds : List D) | dct (kvs : List (Key × D))
inductive Sl where
  | no | fz (d : D) | own (c : Co) | arg (c : Co)
inductive Vl where
  | fz (d : D) | own (c : Co) | loc (i : Nat)
abbrev DS := List Sl
inductive R (α : Type) where
  | ok (a : α) (s : DS) | ex (c : Value) (s : DS) | bad
@[simp] def R.bind {α β : Type} (r : R α) (k : α → DS → R β) : R β := match r with
  | .ok a s => k a s
  | .ex c s => .ex c s
  | .bad => .bad
@[simp] def Sl.held : Sl → Bool
  | .own _ => true | .arg _ => true | _ => false
def Sl.isArg : Sl → Bool
  | .arg _ => true | _ => false

/-- an error of the class cls that was caught, at a -/
def ExH (cls : Value) (a : Addr) : HO := .ext fun h => ∃ (oe : Obj) (vs : Array Value), h.get? a = some oe ∧ Zc cls none oe ∧ oe.data = .fields vs
/-- a caught error as data: its class by its name -/
abbrev excD (x : Str) : D := .dict [(.str x, .none)]
abbrev odD : D := .dict [(.bool true, .none), (.bool true, .none)]
/-- a key as data -/
def keyD : Key → D
  | .inl i => .int i
  | .inr x => .str x
/-- a dict that no row changes any more: its keys, its things -/
abbrev dctD (ks ds : List D) : D := .dict [(.bool true, .list ks), (.bool false, .list ds)]
mutual
/-- v is the data d, all of it in the part F of the heap -/
inductive Dp (K : PySem.W.Frag) (F : Hp) : V → D → Prop
  | non : Dp K F .non .none
  | bl (b : Bool) : Dp K F (.bl b) (.bool b)
  | int (i : Int) : Dp K F (.int i) (.int i)
  | str (x : Str) : Dp K F (.str x) (.str x)
  | lst {a : Addr} {xs : List V} {ds : List D} : F a = some (.lst xs) → DpAll K F xs ds → Dp K F (.ref a) (.list ds)
  | tup {a : Addr} {xs : List V} {ds : List D} : F a = some (.tup xs) → DpAll K F xs ds → Dp K F (.ref a) (.tuple ds)
  /-- the script: a list of ints that is only read -/
  | scr {a : Addr} {ns : List Int} : SqL K F a (ns.map V.int) → Dp K F (.ref a) (.dict [(.none, .list (ns.map PyData.int))])
  | dct {a : Addr} {od : Obj} {ws : List (Key × V)} {ds : List D} : F a = some (.frz od (.dK ws)) → DpAll K F (ws.map Prod.snd) ds → Dp K F (.ref a) (dctD (ws.map fun w => keyD w.1) ds)
  | exc {a : Addr} (x : Str) : F a = some (ExH (.ref (He.ga K x)) a) → Dp K F (.ref a) (excD x)
  /-- a dict of which no more is told -/
  | opq {a : Addr} {ws : List (List Key × V)} : F a = some (.dT ws) → Dp K F (.ref a) odD
inductive DpAll (K : PySem.W.Frag) (F : Hp) : List V → List D → Prop
  | nil : DpAll K F [] []
  | cons {v : V} {vs : List V} {d : D} {ds : List D} : Dp K F v d → DpAll K F vs ds → DpAll K F (v :: vs) (d :: ds)
end
theorem same_r {H H' : Hp} {a : Addr} {u : HO} (e : Same H H') (h : Rd H a u) : Rd H' a u := by
  rcases h with h | ⟨o, h⟩
  · exact .inl (e _ _ h)
  · exact .inr ⟨o, e _ _ h⟩
theorem same_l {K : PySem.W.Frag} {H H' : Hp} {a : Addr} {xs : List V} (e : Same H H') (h : SqL K H a xs) : SqL K H' a xs := e.seq h
theorem same_t {K : PySem.W.Frag} {H H' : Hp} {a : Addr} {xs : List V} (e : Same H H') (h : SqT K H a xs) : SqT K H' a xs := by
  rcases h with (h | ⟨o, h⟩) | h
  · exact .inl (.inl (e _ _ h))
  · exact .inl (.inr ⟨o, e _ _ h⟩)
  · exact .inr h
mutual
theorem dp_mono {K : PySem.W.Frag} {F F' : Hp} (e : Same F F') : ∀ (d : D) (v : V), Dp K F v d → Dp K F' v d
  | .none, _, h => by cases h; exact .non
  | .bool b, _, h => by cases h; exact .bl b
  | .int i, _, h => by cases h; exact .int i
  | .str x, _, h => by cases h; exact .str x
  | .list ds, _, h => by cases h with | lst h a => exact .lst (e _ _ h) (dpa_mono e ds _ a)
  | .tuple ds, _, h => by cases h with | tup h a => exact .tup (e _ _ h) (dpa_mono e ds _ a)
  | .dict [(.none, .list _)], _, h => by cases h with | scr h => exact .scr (same_l e h)
  | .dict [(.bool true, .list _), (.bool false, .list ds)], _, h => by cases h with | dct h a => exact .dct (e _ _ h) (dpa_mono e ds _ a)
  | .dict kvs, _, h => by
    cases h with
    | scr h => exact .scr (same_l e h)
    | @dct a od ws ds h w => exact .dct (e _ _ h) (dpa_mono e ds _ w)
    | exc x h => exact .exc x (e _ _ h)
    | opq h => exact .opq (e _ _ h)
theorem dpa_mono {K : PySem.W.Frag} {F F' : Hp} (e : Same F F') : ∀ (ds : List D) (vs : List V), DpAll K F vs ds → DpAll K F' vs ds
  | [], _, h => by cases h; exact .nil
  | d :: ds, _, h => by cases h with | cons h a => exact .cons (dp_mono e d _ h) (dpa_mono e ds _ a)
end
theorem dpa_len {K : PySem.W.Frag} {F : Hp} : ∀ {vs : List V} {ds : List D}, DpAll K F vs ds → vs.length = ds.length
  | _, _, .nil => rfl
  | _, _, .cons _ t => by simp [dpa_len t]
theorem dpa_get {K : PySem.W.Frag} {F : Hp} : ∀ {vs : List V} {ds : List D} {i : Nat} {d : D}, DpAll K F vs ds → ds[i]? = some d → ∃ v, vs[i]? = some v ∧ Dp K F v d
  | _, _, _, _, .nil, e => by simp at e
  | _, _, 0, _, .cons h _, e => by simp at e; subst e; exact ⟨_, rfl, h⟩
  | _, _, i + 1, _, .cons _ t, e => by
    obtain ⟨v, h1, h2⟩ := dpa_get (i := i) t (by simpa using e)
    exact ⟨v, by simpa using h1, h2⟩
theorem dpa_get' {K : PySem.W.Frag} {F : Hp} : ∀ {vs : List V} {ds : List D} {i : Nat} {v : V}, DpAll K F vs ds → vs[i]? = some v → ∃ d, ds[i]? = some d ∧ Dp K F v d
  | _, _, _, _, .nil, e => by simp at e
  | _, _, 0, _, .cons h _, e => by simp at e; subst e; exact ⟨_, rfl, h⟩
  | _, _, i + 1, _, .cons _ t, e => by
    obtain ⟨v, h1, h2⟩ := dpa_get' (i := i) t (by simpa using e)
    exact ⟨v, by simpa using h1, h2⟩
theorem dpa_app {K : PySem.W.Frag} {F : Hp} : ∀ {vs ws : List V} {ds es : List D}, DpAll K F vs ds → DpAll K F ws es → DpAll K F (vs ++ ws) (ds ++ es)
  | _, _, _, _, .nil, b => b
  | _, _, _, _, .cons h t, b => .cons h (dpa_app t b)
theorem dpa_take {K : PySem.W.Frag} {F : Hp} : ∀ {vs : List V} {ds : List D} (n : Nat), DpAll K F vs ds → DpAll K F (vs.take n) (ds.take n)
  | _, _, 0, _ => by simp; exact .nil
  | _, _, n + 1, .nil => by simp; exact .nil
  | _, _, n + 1, .cons h t => .cons h (dpa_take n t)
theorem dpa_drop {K : PySem.W.Frag} {F : Hp} : ∀ {vs : List V} {ds : List D} (n : Nat), DpAll K F vs ds → DpAll K F (vs.drop n) (ds.drop n)
  | _, _, 0, h => h
  | _, _, n + 1, .nil => by simp; exact .nil
  | _, _, n + 1, .cons h t => dpa_drop n t
theorem dpa_set {K : PySem.W.Frag} {F : Hp} : ∀ {vs : List V} {ds : List D} {v : V} {d : D} (n : Nat), DpAll K F vs ds → Dp K F v d → DpAll K F (vs.set n v) (ds.set n d)
  | _, _, _, _, _, .nil, _ => .nil
  | _, _, _, _, 0, .cons h t, x => .cons x t
  | _, _, _, _, n + 1, .cons h t, x => .cons h (dpa_set n t x)
theorem dpa_rev {K : PySem.W.Frag} {F : Hp} : ∀ {vs : List V} {ds : List D}, DpAll K F vs ds → DpAll K F vs.reverse ds.reverse
  | _, _, .nil => .nil
  | _, _, .cons h t => by
    rw [List.reverse_cons, List.reverse_cons]
    exact dpa_app (dpa_rev t) (.cons h .nil)
theorem dpa_erase {K : PySem.W.Frag} {F : Hp} : ∀ {vs : List V} {ds : List D} (n : Nat), DpAll K F vs ds → DpAll K F (vs.eraseIdx n) (ds.eraseIdx n)
  | _, _, _, .nil => .nil
  | _, _, 0, .cons h t => t
  | _, _, n + 1, .cons h t => .cons h (dpa_erase n t)

mutual
theorem dp_lib {K : PySem.W.Frag} {F : Hp} : ∀ (d : D) (v : V), d.canLay0 = true → Dp K F v d → L2.Dp K F v d
  | .none, _, _, h => by cases h; exact .non
  | .bool b, _, _, h => by cases h; exact .bl b
  | .int i, _, _, h => by cases h; exact .int i
  | .str x, _, _, h => by cases h; exact .str x
  | .list ds, _, c, h => by cases h with | lst h a => exact .lst (SqL.of h) (dpa_lib ds _ c a)
  | .tuple ds, _, c, h => by cases h with | tup h a => exact .tup (SqT.of h) (dpa_lib ds _ c a)
  | .dict kvs, _, c, h => by cases c
theorem dpa_lib {K : PySem.W.Frag} {F : Hp} : ∀ (ds : List D) (vs : List V), PyData.canLayAll0 ds = true → DpAll K F vs ds → L2.DpAll K F vs ds
  | [], _, _, h => by cases h; exact .nil
  | d :: ds, _, c, h => by
    have c' : d.canLay0 = true ∧ PyData.canLayAll0 ds = true := by
      have c : (d.canLay0 && PyData.canLayAll0 ds) = true := c
      rw [Bool.and_eq_true] at c
      exact c
    cases h with | cons h a => exact .cons (dp_lib d _ c'.1 h) (dpa_lib ds _ c'.2 a)
end
theorem dpa_ints {K : PySem.W.Frag} {F : Hp} : ∀ (ns : List Int), DpAll K F (ns.map V.int) (ns.map PyData.int)
  | [] => .nil
  | n :: ns => .cons (.int n) (dpa_ints ns)
/-- what an own object holds -/
def CoOk (K : PySem.W.Frag) (F : Hp) : Co → HO → Prop
  | .lst ds, o => ∃ vs, o = .lst vs ∧ DpAll K F vs ds
  | .dct kvs, o => ∃ ws, o = .dK ws ∧ Paired (fun (p : Key × V) (q : Key × D) => p.1 = q.1 ∧ Dp K F p.2 q.2) ws kvs
theorem CoOk.mono {K : PySem.W.Frag} {F F' : Hp} (e : Same F F') : ∀ {c : Co} {o : HO}, CoOk K F c o → CoOk K F' c o
  | .lst ds, _, ⟨vs, h, a⟩ => ⟨vs, h, dpa_mono e _ _ a⟩
  | .dct kvs, _, ⟨ws, h, a⟩ => ⟨ws, h, Paired.mapP a fun _ _ z => ⟨z.1, dp_mono e _ _ z.2⟩⟩
theorem CoOk.mut {K : PySem.W.Frag} {F : Hp} : ∀ {c : Co} {o : HO}, CoOk K F c o → L2.Mut (some o)
  | .lst ds, _, ⟨vs, h, a⟩ => by subst h; trivial
  | .dct kvs, _, ⟨ws, h, a⟩ => by subst h; trivial

/-- what is fixed through a def's body: F0, H0 what stood at its beginning (F0: what is never changed of it), M: the slots of own arguments; E: what is wanted of an error -/
structure Cf where
  K : PySem.W.Frag
  E : L2.St → XK
structure Ct where
  C : Cf
  F0 : Hp
  H0 : Hp
  M : Nat → Option Addr
abbrev Ct.K (G : Ct) : PySem.W.Frag := G.C.K
abbrev Ct.E (G : Ct) : L2.St → XK := G.C.E

def SlOk (G : Ct) (F H : Hp) (i : Nat) (x : Option (Option V)) : Sl → Prop
  | .no => True
  | .fz d => ∃ v, x = some (some v) ∧ Dp G.K F v d
  | .own c => ∃ p o, x = some (some (.ref p)) ∧ H p = some o ∧ F p = none ∧ CoOk G.K F c o ∧ G.M i = none ∧ G.H0 p = none
  | .arg c => ∃ p o, x = some (some (.ref p)) ∧ H p = some o ∧ F p = none ∧ CoOk G.K F c o ∧ G.M i = some p

structure St1 (G : Ct) (δ : DS) (σ : L2.St) (F H : Hp) : Prop where
  len : δ.length = σ.length
  fh : Same F H
  f0 : Same G.F0 F
  h0 : ∀ b o, (∀ i, G.M i ≠ some b) → G.H0 b = some o → H b = some o
  fn : ∀ b, F b ≠ none → G.F0 b ≠ none ∨ G.H0 b = none
  sl : ∀ (i : Nat) (s : Sl), δ[i]? = some s → SlOk G F H i σ[i]? s
  di : ∀ (i j : Nat) (s t : Sl) (p : Addr), i ≠ j → δ[i]? = some s → δ[j]? = some t → s.held = true → t.held = true → σ[i]? = some (some (.ref p)) → σ[j]? = some (some (.ref p)) → False
  ma : ∀ i p, G.M i = some p → ∃ c, δ[i]? = some (.arg c)
  tb : TabF G.F0

theorem St1.tabF {G : Ct} {δ : DS} {σ : L2.St} {F H : Hp} (k : St1 G δ σ F H) : TabF F := fun P h => k.f0 _ _ (k.tb P h)
/-- a value -/
def VlOk (G : Ct) (δ : DS) (σ : L2.St) (F H : Hp) (v : V) : Vl → Prop
  | .fz d => Dp G.K F v d
  | .own c => ∃ p o, v = .ref p ∧ H p = some o ∧ F p = none ∧ CoOk G.K F c o ∧ G.H0 p = none ∧ ∀ (i : Nat) (s : Sl), δ[i]? = some s → s.held = true → σ[i]? ≠ some (some (.ref p))
  | .loc i => σ[i]? = some (some v)

/-! ### lookups and keeps -/
section
variable {G : Ct} {δ δ' : DS} {σ : L2.St} {F F' H H' : Hp} {p : Addr} {o : HO}
/-- what is new at H was not there at the beginning -/
theorem St1.new0 (k : St1 G δ σ F H) (h : H p = none) : G.H0 p = none := by
  cases e : G.H0 p with
  | none => rfl
  | some o =>
    by_cases hm : ∃ i, G.M i = some p
    · obtain ⟨i, hi⟩ := hm
      obtain ⟨c, hc⟩ := k.ma i p hi
      obtain ⟨q, o', _, h1, _, _, h2⟩ := k.sl i _ hc
      rw [hi] at h2
      cases h2
      rw [h] at h1
      cases h1
    · have := k.h0 p o (fun i hi => hm ⟨i, hi⟩) e
      rw [h] at this
      cases this
theorem St1.newF (k : St1 G δ σ F H) (h : H p = none) : F p = none := k.fh.free h
/-- the heap grows by p alone -/
theorem same_upd {H : Hp} {p : Addr} {o : HO} (h : H p = none) : Same H (upd H p o) := fun b x e => by
  rw [upd_ne (ne_of_none e h)]
  exact e
theorem SlOk.mono {i : Nat} {x : Option (Option V)} {s : Sl} (h : SlOk G F H i x s) (ff : Same F F') (hh : ∀ b o, F b = none → H b = some o → s.held = true → x = some (some (.ref b)) → H' b = some o ∧ F' b = none) : SlOk G F' H' i x s := by
  cases s with
  | no => trivial
  | fz d =>
    obtain ⟨v, e, h⟩ := h
    exact ⟨v, e, dp_mono ff _ _ h⟩
  | own c =>
    obtain ⟨p, o, e, h1, h2, h3, h4, h5⟩ := h
    obtain ⟨g1, g2⟩ := hh p o h2 h1 rfl e
    exact ⟨p, o, e, g1, g2, h3.mono ff, h4, h5⟩
  | arg c =>
    obtain ⟨p, o, e, h1, h2, h3, h4⟩ := h
    obtain ⟨g1, g2⟩ := hh p o h2 h1 rfl e
    exact ⟨p, o, e, g1, g2, h3.mono ff, h4⟩
/-- the state as the heap grows: H to H', F to F', where what is held stays and is not frozen -/
theorem St1.grow (k : St1 G δ σ F H) (ff : Same F F') (fh : Same F' H') (hh : Same H H') (fn : ∀ b, F' b ≠ none → F b ≠ none ∨ (G.H0 b = none ∧ ∀ (i : Nat) (s : Sl), δ[i]? = some s → s.held = true → σ[i]? ≠ some (some (.ref b)))) : St1 G δ σ F' H' where
  len := k.len
  fh := fh
  f0 := k.f0.trans ff
  h0 := fun b o hm e => hh b o (k.h0 b o hm e)
  fn := fun b e => by
    rcases fn b e with q | q
    · exact k.fn b q
    · exact .inr q.1
  sl := fun i s e => (k.sl i s e).mono ff fun b o h1 h2 h3 h4 => ⟨hh b o h2, by
    cases q : F' b with
    | none => rfl
    | some u =>
      rcases fn b (by rw [q]; simp) with z | z
      · exact absurd h1 z
      · exact absurd h4 (z.2 i s e h3)⟩
  di := k.di
  ma := k.ma
  tb := k.tb
/-- a new frozen object -/
theorem St1.newFz (k : St1 G δ σ F H) (h : H p = none) : St1 G δ σ (upd F p o) (upd H p o) := by
  have hF := k.newF h
  refine k.grow (same_upd hF) (fun b u e => ?_) (same_upd h) fun b e => ?_
  · by_cases hb : b = p
    · subst hb; rw [upd_same] at e ⊢; exact e
    · rw [upd_ne hb] at e ⊢; exact k.fh _ _ e
  · by_cases hb : b = p
    · subst hb
      refine .inr ⟨k.new0 h, fun i s hs hh q => ?_⟩
      have z := k.sl i s hs
      cases s with
      | own c => obtain ⟨r, u, e1, e2, _⟩ := z; rw [q] at e1; cases e1; rw [h] at e2; cases e2
      | arg c => obtain ⟨r, u, e1, e2, _⟩ := z; rw [q] at e1; cases e1; rw [h] at e2; cases e2
      | no => cases hh
      | fz d => cases hh
    · rw [upd_ne hb] at e
      exact .inl e
/-- a new object that is ours -/
theorem St1.newOwn (k : St1 G δ σ F H) (h : H p = none) : St1 G δ σ F (upd H p o) := k.grow (Same.refl F) (k.fh.trans (same_upd h)) (same_upd h) fun b e => .inl e
theorem St1.free (k : St1 G δ σ F H) (h : H p = none) : ∀ (i : Nat) (s : Sl), δ[i]? = some s → s.held = true → σ[i]? ≠ some (some (.ref p)) := fun i s hs hh q => by
  have z := k.sl i s hs
  cases s with
  | own c => obtain ⟨r, u, e1, e2, _⟩ := z; rw [q] at e1; cases e1; rw [h] at e2; cases e2
  | arg c => obtain ⟨r, u, e1, e2, _⟩ := z; rw [q] at e1; cases e1; rw [h] at e2; cases e2
  | no => cases hh
  | fz d => cases hh
/-- .. its value -/
theorem St1.valOwn (k : St1 G δ σ F H) (h : H p = none) {c : Co} (hc : CoOk G.K F c o) : VlOk G δ σ F (upd H p o) (.ref p) (.own c) :=
  ⟨p, o, rfl, upd_same, k.newF h, hc, k.new0 h, k.free h⟩
/-- what is frozen of a value that is new -/
def fzT : Vl → Vl
  | .own (.lst ds) => .fz (.list ds)
  | x => x
theorem St1.freeze (k : St1 G δ σ F H) {v : V} {a : Vl} (h : VlOk G δ σ F H v a) : ∃ F', St1 G δ σ F' H ∧ Same F F' ∧ VlOk G δ σ F' H v (fzT a) := by
  cases a with
  | fz d => exact ⟨F, k, Same.refl F, h⟩
  | loc i => exact ⟨F, k, Same.refl F, h⟩
  | own c =>
    cases c with
    | dct kvs => exact ⟨F, k, Same.refl F, h⟩
    | lst ds =>
      obtain ⟨p, o, rfl, h1, h2, ⟨vs, rfl, h3⟩, h4, h5⟩ := h
      have ff : Same F (upd F p (.lst vs)) := same_upd h2
      refine ⟨upd F p (.lst vs), k.grow ff (fun b u e => ?_) (Same.refl H) fun b e => ?_, ff, .lst upd_same (dpa_mono ff _ _ h3)⟩
      · by_cases hb : b = p
        · subst hb; rw [upd_same] at e; rw [h1]; exact e
        · rw [upd_ne hb] at e; exact k.fh _ _ e
      · by_cases hb : b = p
        · subst hb; exact .inr ⟨h4, h5⟩
        · rw [upd_ne hb] at e; exact .inl e

/-! ### looking at a value -/
def vw (δ : DS) : Vl → Option D
  | .fz d => some d
  | .own (.lst ds) => some (.list ds)
  | .own _ => none
  | .loc i => match δ[i]? with
    | some (.own (.lst ds)) => some (.list ds)
    | some (.arg (.lst ds)) => some (.list ds)
    | some (.fz d) => some d
    | _ => none
/-- v is d: in the frozen part, or an own list of such -/
def Vw (K : PySem.W.Frag) (F H : Hp) (v : V) (d : D) : Prop := Dp K F v d ∨ ∃ p vs ds, v = .ref p ∧ d = .list ds ∧ H p = some (.lst vs) ∧ DpAll K F vs ds
theorem Vw.dp {K : PySem.W.Frag} {v : V} {d : D} (h : Vw K F H v d) (fh : Same F H) : Dp K H v d := by
  rcases h with h | ⟨p, vs, ds, rfl, rfl, h1, h2⟩
  · exact dp_mono fh _ _ h
  · exact .lst h1 (dpa_mono fh _ _ h2)
theorem St1.view (k : St1 G δ σ F H) {v : V} {a : Vl} {d : D} (h : VlOk G δ σ F H v a) (e : vw δ a = some d) : Vw G.K F H v d := by
  cases a with
  | fz d => cases e; exact .inl h
  | own c =>
    cases c with
    | dct _ => cases e
    | lst ds =>
      cases e
      obtain ⟨p, o, rfl, h1, h2, ⟨vs, rfl, h3⟩, _⟩ := h
      exact .inr ⟨p, vs, ds, rfl, rfl, h1, h3⟩
  | loc i =>
    have h : σ[i]? = some (some v) := h
    unfold vw at e
    simp only at e
    cases es : δ[i]? with
    | none => rw [es] at e; cases e
    | some s =>
      rw [es] at e
      have z := k.sl i s es
      cases s with
      | no => cases e
      | fz d' =>
        cases e
        obtain ⟨v', e1, e2⟩ := z
        rw [h] at e1
        cases e1
        exact .inl e2
      | own c =>
        cases c with
        | dct _ => cases e
        | lst ds =>
          cases e
          obtain ⟨p, o, e1, h1, h2, ⟨vs, rfl, h3⟩, _⟩ := z
          rw [h] at e1
          cases e1
          exact .inr ⟨p, vs, ds, rfl, rfl, h1, h3⟩
      | arg c =>
        cases c with
        | dct _ => cases e
        | lst ds =>
          cases e
          obtain ⟨p, o, e1, h1, h2, ⟨vs, rfl, h3⟩, _⟩ := z
          rw [h] at e1
          cases e1
          exact .inr ⟨p, vs, ds, rfl, rfl, h1, h3⟩
/-- an own list's items -/
theorem Vw.list {K : PySem.W.Frag} {v : V} {ds : List D} (h : Vw K F H v (.list ds)) (fh : Same F H) : ∃ p vs, v = .ref p ∧ H p = some (.lst vs) ∧ DpAll K F vs ds := by
  rcases h with h | ⟨p, vs, ds', rfl, e, h1, h2⟩
  · cases h with | lst a b => exact ⟨_, _, rfl, fh _ _ a, b⟩
  · cases e
    exact ⟨p, vs, rfl, h1, h2⟩
theorem Vw.tup {K : PySem.W.Frag} {v : V} {ds : List D} (h : Vw K F H v (.tuple ds)) : ∃ p vs, v = .ref p ∧ F p = some (.tup vs) ∧ DpAll K F vs ds := by
  rcases h with h | ⟨p, vs, ds', rfl, e, h1, h2⟩
  · cases h with | tup a b => exact ⟨_, _, rfl, a, b⟩
  · cases e
theorem Vw.scr {K : PySem.W.Frag} {v : V} {kvs : List (D × D)} (h : Vw K F H v (.dict kvs)) (hk : ∀ ks ds, kvs ≠ [(.bool true, .list ks), (.bool false, .list ds)]) (hx : ∀ x, kvs ≠ [(.str x, .none)]) (ho : kvs ≠ [(.bool true, .none), (.bool true, .none)]) : ∃ (p : Addr) (ns : List Int), v = .ref p ∧ kvs = [(.none, .list (ns.map PyData.int))] ∧ SqL K F p (ns.map V.int) := by
  rcases h with h | ⟨p, vs, ds', rfl, e, h1, h2⟩
  · cases h with
    | scr a => exact ⟨_, _, rfl, rfl, a⟩
    | dct a b => exact absurd rfl (hk _ _)
    | exc x a => exact absurd rfl (hx _)
    | opq a => exact absurd rfl ho
  · cases e
theorem Vw.int {K : PySem.W.Frag} {v : V} {i : Int} (h : Vw K F H v (.int i)) : v = .int i := by
  rcases h with h | ⟨p, vs, ds', rfl, e, h1, h2⟩
  · cases h; rfl
  · cases e
theorem Vw.bl {K : PySem.W.Frag} {v : V} {i : Bool} (h : Vw K F H v (.bool i)) : v = .bl i := by
  rcases h with h | ⟨p, vs, ds', rfl, e, h1, h2⟩
  · cases h; rfl
  · cases e
theorem Vw.str {K : PySem.W.Frag} {v : V} {i : Str} (h : Vw K F H v (.str i)) : v = .str i := by
  rcases h with h | ⟨p, vs, ds', rfl, e, h1, h2⟩
  · cases h; rfl
  · cases e
theorem Vw.non {K : PySem.W.Frag} {v : V} (h : Vw K F H v .none) : v = .non := by
  rcases h with h | ⟨p, vs, ds', rfl, e, h1, h2⟩
  · cases h; rfl
  · cases e
theorem Vw.mono {K : PySem.W.Frag} {v : V} {d : D} (h : Vw K F H v d) (ff : Same F F') (hh : ∀ p vs, v = .ref p → H p = some (.lst vs) → H' p = some (.lst vs)) : Vw K F' H' v d := by
  rcases h with h | ⟨p, vs, ds', rfl, e, h1, h2⟩
  · exact .inl (dp_mono ff _ _ h)
  · exact .inr ⟨p, vs, ds', rfl, e, hh p vs rfl h1, dpa_mono ff _ _ h2⟩
/-- a value's word as all goes on: frozen ones and slots -/
def Vl.stays : Vl → Bool
  | .own _ => false
  | _ => true
theorem VlOk.keep {v : V} {a : Vl} (h : VlOk G δ σ F H v a) (st : a.stays = true) (ff : Same F F') : VlOk G δ' σ F' H' v a := by
  cases a with
  | fz d => exact dp_mono ff _ _ h
  | own c => cases st
  | loc i => exact h
theorem fzT_stays {a : Vl} {d : D} {δ : DS} (h : vw δ (fzT a) = some d) : (fzT a).stays = true := by
  cases a with
  | fz d => rfl
  | loc i => rfl
  | own c => cases c <;> first | rfl | cases h
/-- a value is kept for good: what it is as frozen data -/
def kp (a : Vl) (δ : DS) : R D := match a with
  | .fz d => .ok d δ
  | .own (.lst ds) => .ok (.list ds) δ
  | .own _ => .bad
  | .loc i => match δ[i]? with
    | some (.own (.lst ds)) => .ok (.list ds) (δ.set i (.fz (.list ds)))
    | some (.fz d) => .ok d δ
    | _ => .bad
theorem St1.keepV (k : St1 G δ σ F H) {v : V} {a : Vl} {d : D} (h : VlOk G δ σ F H v a) (e : kp a δ = .ok d δ') : ∃ F', St1 G δ' σ F' H ∧ Same F F' ∧ Dp G.K F' v d := by
  cases a with
  | fz d' => cases e; exact ⟨F, k, Same.refl F, h⟩
  | own c =>
    cases c with
    | dct _ => cases e
    | lst ds =>
      cases e
      obtain ⟨F', a, b, c⟩ := k.freeze h
      exact ⟨F', a, b, c⟩
  | loc i =>
    have h : σ[i]? = some (some v) := h
    unfold kp at e
    simp only at e
    cases es : δ[i]? with
    | none => rw [es] at e; cases e
    | some s =>
      rw [es] at e
      have z := k.sl i s es
      cases s with
      | no => cases e
      | arg c => cases e
      | fz d' =>
        cases e
        obtain ⟨v', e1, e2⟩ := z
        rw [h] at e1
        cases e1
        exact ⟨F, k, Same.refl F, e2⟩
      | own c =>
        cases c with
        | dct _ => cases e
        | lst ds =>
          cases e
          obtain ⟨p, o, e1, h1, h2, ⟨vs, rfl, h3⟩, h4, h5⟩ := z
          rw [h] at e1
          cases e1
          have ff : Same F (upd F p (.lst vs)) := same_upd h2
          have hlt : i < δ.length := (List.getElem?_eq_some_iff.mp es).1
          have dpv : Dp G.K (upd F p (.lst vs)) (.ref p) (.list ds) := .lst upd_same (dpa_mono ff _ _ h3)
          refine ⟨upd F p (.lst vs), ⟨by simpa using k.len, fun b u e => ?_, k.f0.trans ff, k.h0, fun b e => ?_, fun j s hs => ?_, fun j j' s t q hj hs ht hh hh' q1 q2 => ?_, fun j q hq => ?_, k.tb⟩, ff, dpv⟩
          · by_cases hb : b = p
            · subst hb; rw [upd_same] at e; rw [h1]; exact e
            · rw [upd_ne hb] at e; exact k.fh _ _ e
          · by_cases hb : b = p
            · subst hb; exact .inr h5
            · rw [upd_ne hb] at e; exact k.fn b e
          · by_cases hj : j = i
            · subst hj
              rw [List.getElem?_set_self hlt] at hs
              cases hs
              exact ⟨.ref p, h, dpv⟩
            · rw [List.getElem?_set_ne (Ne.symm hj)] at hs
              refine (k.sl j s hs).mono ff fun b u g1 g2 g3 g4 => ⟨g2, ?_⟩
              by_cases hb : b = p
              · subst hb
                exact (k.di j i s _ b hj hs es g3 rfl g4 h).elim
              · rw [upd_ne hb]; exact g1
          · have a1 : j ≠ i := fun z => by
              subst z
              rw [List.getElem?_set_self hlt] at hs
              cases hs
              cases hh
            have a2 : j' ≠ i := fun z => by
              subst z
              rw [List.getElem?_set_self hlt] at ht
              cases ht
              cases hh'
            rw [List.getElem?_set_ne (Ne.symm a1)] at hs
            rw [List.getElem?_set_ne (Ne.symm a2)] at ht
            exact k.di j j' s t q hj hs ht hh hh' q1 q2
          · obtain ⟨c, hc⟩ := k.ma j q hq
            have a1 : j ≠ i := fun z => by
              subst z
              rw [es] at hc
              cases hc
            exact ⟨c, by rw [List.getElem?_set_ne (Ne.symm a1)]; exact hc⟩
end
end DL

set_option Elab.async false
set_option linter.all false
set_option maxRecDepth 100000
set_option autoImplicit false
namespace DL
open PySem PySem.Spec PyProof.Rows L2
variable [Tabs]

/-! ### what is wanted behind a data reading -/
def finA {α β : Type} (G : Ct) (W : DS → Hp → Hp → β → α → Prop) (r : R α) (σ : L2.St) (F : Hp) (Q : β → Hp → Prop) : Prop := match r with
  | .ok a δ' => ∀ b F' H', St1 G δ' σ F' H' → Same F F' → W δ' F' H' b a → Q b H'
  | .ex c δ' => ∀ F' H', St1 G δ' σ F' H' → Same F F' → G.E σ c none H'
  | .bad => False
theorem finA_mono {α β : Type} {G : Ct} {W : DS → Hp → Hp → β → α → Prop} {r : R α} {σ : L2.St} {F F1 : Hp} {Q : β → Hp → Prop} (h : finA G W r σ F Q) (f : Same F F1) : finA G W r σ F1 Q := by
  cases r with
  | ok a δ => exact fun b F' H' s g w => h b F' H' s (f.trans g) w
  | ex c δ => exact fun F' H' s g => h F' H' s (f.trans g)
  | bad => exact h
theorem finA_bind {α β α' β' : Type} {G : Ct} {W : DS → Hp → Hp → β → α → Prop} {W' : DS → Hp → Hp → β' → α' → Prop} {r : R α} {k : α → DS → R α'} {σ : L2.St} {F : Hp} {Q : β → Hp → Prop} {Q' : β' → Hp → Prop}
    (h : finA G W' (r.bind k) σ F Q') (hk : ∀ a δ1 v F1 H1, St1 G δ1 σ F1 H1 → Same F F1 → W δ1 F1 H1 v a → finA G W' (k a δ1) σ F1 Q' → Q v H1) : finA G W r σ F Q := by
  cases r with
  | ok a δ => exact fun v F1 H1 s g w => hk a δ v F1 H1 s g w (finA_mono h g)
  | ex c δ => exact h
  | bad => exact h
theorem finA_imp {α β : Type} {G : Ct} {W : DS → Hp → Hp → β → α → Prop} {r : R α} {σ : L2.St} {F : Hp} {Q Q' : β → Hp → Prop} (h : finA G W r σ F Q) (q : ∀ b H, Q b H → Q' b H) : finA G W r σ F Q' := by
  cases r with
  | ok a δ => exact fun b F' H' s g w => q _ _ (h b F' H' s g w)
  | ex c δ => exact h
  | bad => exact h
def WV (G : Ct) (σ : L2.St) : DS → Hp → Hp → V → Vl → Prop := fun δ F H v a => VlOk G δ σ F H v a
def WB : DS → Hp → Hp → Bool → Bool → Prop := fun _ _ _ b a => b = a
def WL (G : Ct) : DS → Hp → Hp → List V → List D → Prop := fun _ F _ vs ds => DpAll G.K F vs ds
def WO : DS → Hp → Hp → Option Int → Option Int → Prop := fun _ _ _ b a => b = a
abbrev De := DS → R Vl
abbrev Dt := DS → R Bool
abbrev Dl := DS → R (List D)
abbrev Dopt := DS → R (Option Int)
def up (C : Cf) (td : De) : TE := fun σ H Q => ∃ G δ F, G.C = C ∧ St1 G δ σ F H ∧ finA G (WV G σ) (td δ) σ F Q
def upT (C : Cf) (td : Dt) : TT := fun σ H Q => ∃ G δ F, G.C = C ∧ St1 G δ σ F H ∧ finA G WB (td δ) σ F Q
def upL (C : Cf) (td : Dl) : TA := fun σ H Q => ∃ G δ F, G.C = C ∧ St1 G δ σ F H ∧ finA G (WL G) (td δ) σ F Q
def upO (C : Cf) (td : Dopt) : TO := fun σ H Q => ∃ G δ F, G.C = C ∧ St1 G δ σ F H ∧ finA G WO (td δ) σ F Q

section
variable {X : Cx} {C : Cf} {e : Expr}
theorem pe_weak {t t' : TE} (h : PE X e t) (w : ∀ σ H Q, t' σ H Q → t σ H Q) : PE X e t' := ⟨fun pins s σ H Q I q => h.run pins s σ H Q I (w σ H Q q)⟩
theorem pt_weak {t t' : TT} (h : PT X e t) (w : ∀ σ H Q, t' σ H Q → t σ H Q) : PT X e t' := ⟨fun pins s σ H Q I q => h.run pins s σ H Q I (w σ H Q q)⟩
theorem pw_weak {t t' : TT} (h : PW X e t) (w : ∀ σ H Q, t' σ H Q → t σ H Q) : PW X e t' := ⟨fun wh pins s σ H Q I q => h.run wh pins s σ H Q I (w σ H Q q)⟩
theorem pa_weak {es : List Expr} {t t' : TA} (h : PA X es t) (w : ∀ σ H Q, t' σ H Q → t σ H Q) : PA X es t' := ⟨fun pos pins s σ H Q I q => h.run pos pins s σ H Q I (w σ H Q q)⟩
theorem po_weak {eo : Option Expr} {t t' : TO} (h : PO X eo t) (w : ∀ σ H Q, t' σ H Q → t σ H Q) : PO X eo t' := ⟨fun pins s σ H Q I q => h.run pins s σ H Q I (w σ H Q q)⟩
theorem ps_weak {st : Stmt} {t t' : TS} (h : PS X st t) (w : ∀ D σ H, t' D σ H → t D σ H) : PS X st t' := ⟨fun pins s σ H D I q => h.run pins s σ H D I (w D σ H q)⟩
theorem pss_weak {st : List Stmt} {t t' : TS} (h : PSs X st t) (w : ∀ D σ H, t' D σ H → t D σ H) : PSs X st t' := ⟨fun pins s σ H D I q => h.run pins s σ H D I (w D σ H q)⟩

/-! ### names, constants -/
def dVar (i : Nat) : De := fun δ => match δ[i]? with
  | some (.fz d) => .ok (.fz d) δ
  | some (.own _) => .ok (.loc i) δ
  | some (.arg _) => .ok (.loc i) δ
  | _ => .bad
theorem pd_var (i : Nat) {x : Str} {pos : Pos} (hN : X.N[i]? = some x := by rfl) (hv : Vis X.env.scope x := by first | exact Or.inl rfl | exact Or.inr (Or.inl rfl) | exact Or.inr (Or.inr rfl)) (hd : (x == ("__debug__" : Str)) = false := by decide)
    (hcd : (x == ("__classdict__" : Str)) = false := by decide) : PE X (.Name x pos) (up C (dVar i)) := by
  refine pe_weak (pe_var hN hv hd hcd) fun σ H Q ⟨G, δ, F, hC, k, f⟩ => ?_
  subst hC
  unfold dVar at f
  cases es : δ[i]? with
  | none => rw [es] at f; exact f.elim
  | some s =>
    rw [es] at f
    have z := k.sl i s es
    cases s with
    | no => exact f.elim
    | fz d =>
      obtain ⟨v, e1, e2⟩ := z
      exact ⟨v, e1, f v F H k (Same.refl F) e2⟩
    | own c =>
      obtain ⟨p, o, e1, _⟩ := z
      exact ⟨_, e1, f _ F H k (Same.refl F) e1⟩
    | arg c =>
      obtain ⟨p, o, e1, _⟩ := z
      exact ⟨_, e1, f _ F H k (Same.refl F) e1⟩
def dC (d : D) : De := fun δ => .ok (.fz d) δ
theorem rf_c {v : V} {d : D} (h : ∀ F, Dp C.K F v d) : ∀ σ H Q, up C (dC d) σ H Q → tC v σ H Q := fun σ H Q ⟨G, δ, F, hC, k, f⟩ => by
  subst hC
  exact f v F H k (Same.refl F) (h F)
theorem pd_int {i : Int} {j : Nat} {pos : Pos} : PE X (.Constant (.int i) j pos) (up C (dC (.int i))) := pe_weak pe_int (rf_c fun _ => .int i)
theorem pd_bl {b : Bool} {j : Nat} {pos : Pos} : PE X (.Constant (.bool b) j pos) (up C (dC (.bool b))) := pe_weak pe_bl (rf_c fun _ => .bl b)
theorem pd_non {j : Nat} {pos : Pos} : PE X (.Constant .none j pos) (up C (dC .none)) := pe_weak pe_non (rf_c fun _ => .non)
theorem pd_str {x : Str} {j : Nat} {pos : Pos} : PE X (.Constant (.str x) j pos) (up C (dC (.str x))) := pe_weak pe_str (rf_c fun _ => .str x)

/-! ### operations by values -/
/-- what is done with a result -/
def Res (G : Ct) (δ : DS) (σ : L2.St) (F H : Hp) (z : Vl) (Q : VK) : Prop := ∀ v F' H', St1 G δ σ F' H' → Same F F' → VlOk G δ σ F' H' v z → Q v H'
theorem Res.fz {G : Ct} {δ : DS} {σ : L2.St} {F H : Hp} {d : D} {Q : VK} {v : V} (r : Res G δ σ F H (.fz d) Q) (k : St1 G δ σ F H) (h : Dp G.K F v d) : Q v H := r v F H k (Same.refl F) h
/-- a new list -/
theorem Res.newL {G : Ct} {δ : DS} {σ : L2.St} {F H : Hp} {ds : List D} {Q : VK} {vs : List V} (r : Res G δ σ F H (.own (.lst ds)) Q) (k : St1 G δ σ F H) (h : DpAll G.K F vs ds) : ∀ p, H p = none → Q (.ref p) (upd H p (.lst vs)) := fun p hp =>
  r _ F _ (k.newOwn hp) (Same.refl F) (k.valOwn hp ⟨vs, rfl, h⟩)
/-- a new tuple -/
theorem Res.newT {G : Ct} {δ : DS} {σ : L2.St} {F H : Hp} {ds : List D} {Q : VK} {vs : List V} (r : Res G δ σ F H (.fz (.tuple ds)) Q) (k : St1 G δ σ F H) (h : DpAll G.K F vs ds) : ∀ p, H p = none → Q (.ref p) (upd H p (.tup vs)) := fun p hp =>
  r _ _ _ (k.newFz (o := .tup vs) hp) (same_upd (k.newF hp)) (.tup upd_same (dpa_mono (same_upd (k.newF hp)) _ _ h))
/-- a two-place operation r does f on data -/
def Op2 (K : PySem.W.Frag) (r : R2) (f : D → D → Option Vl) : Prop := ∀ (G : Ct) (δ : DS) (σ : L2.St) (F H : Hp) (x y : V) (d e : D) (z : Vl) (Q : VK), G.K = K → St1 G δ σ F H → Vw K F H x d → Vw K F H y e → f d e = some z → Res G δ σ F H z Q → r x y H Q
def Op1 (K : PySem.W.Frag) (r : V → Hp → VK → Prop) (f : D → Option Vl) : Prop := ∀ (G : Ct) (δ : DS) (σ : L2.St) (F H : Hp) (x : V) (d : D) (z : Vl) (Q : VK), G.K = K → St1 G δ σ F H → Vw K F H x d → f d = some z → Res G δ σ F H z Q → r x H Q
def ret (o : Option Vl) (δ : DS) : R Vl := match o with
  | some z => .ok z δ
  | none => .bad
def lift2 (f : D → D → Option Vl) (x y : Option D) (δ : DS) : R Vl := match x, y with
  | some d, some e => ret (f d e) δ
  | _, _ => .bad
def lift1 (f : D → Option Vl) (x : Option D) (δ : DS) : R Vl := match x with
  | some d => ret (f d) δ
  | _ => .bad
def dBin (f : D → D → Option Vl) (a b : De) : De := fun δ => (a δ).bind fun x δ1 => (b δ1).bind fun y δ2 => lift2 f (vw δ2 (fzT x)) (vw δ2 (fzT y)) δ2
def dUn (f : D → Option Vl) (a : De) : De := fun δ => (a δ).bind fun x δ1 => lift1 f (vw δ1 (fzT x)) δ1
theorem lift2_fin {G : Ct} {f : D → D → Option Vl} {x y : Option D} {δ : DS} {σ : L2.St} {F : Hp} {Q : VK} (h : finA G (WV G σ) (lift2 f x y δ) σ F Q) : ∃ d e z, x = some d ∧ y = some e ∧ f d e = some z ∧ ∀ H, Res G δ σ F H z Q := by
  cases x with
  | none => exact h.elim
  | some d =>
    cases y with
    | none => exact h.elim
    | some e =>
      have h : finA G (WV G σ) (ret (f d e) δ) σ F Q := h
      cases ez : f d e with
      | none => rw [ez] at h; exact h.elim
      | some z => rw [ez] at h; exact ⟨d, e, z, rfl, rfl, ez, fun H v F' H' s g w => h v F' H' s g w⟩
theorem lift1_fin {G : Ct} {f : D → Option Vl} {x : Option D} {δ : DS} {σ : L2.St} {F : Hp} {Q : VK} (h : finA G (WV G σ) (lift1 f x δ) σ F Q) : ∃ d z, x = some d ∧ f d = some z ∧ ∀ H, Res G δ σ F H z Q := by
  cases x with
  | none => exact h.elim
  | some d =>
    have h : finA G (WV G σ) (ret (f d) δ) σ F Q := h
    cases ez : f d with
    | none => rw [ez] at h; exact h.elim
    | some z => rw [ez] at h; exact ⟨d, z, rfl, ez, fun H v F' H' s g w => h v F' H' s g w⟩
/-- .. a value seen, behind its freezing: it is seen still when more has been done -/
theorem vw_own {δ : DS} {a : Vl} {d : D} (h : vw δ (fzT a) = some d) : (fzT a).stays = true := fzT_stays h
/-- the lid of a value that may not stay: nothing is seen of it -/
def Keep (G : Ct) (σ : L2.St) (F H : Hp) (v : V) (a : Vl) : Prop := a.stays = true → ∀ δ, VlOk G δ σ F H v a
theorem keep_of {G : Ct} {δ : DS} {σ : L2.St} {F H : Hp} {v : V} {a : Vl} (h : VlOk G δ σ F H v a) : Keep G σ F H v a := fun st _ => h.keep st (Same.refl F)
theorem Keep.go {G : Ct} {σ : L2.St} {F F' H H' : Hp} {v : V} {a : Vl} (h : Keep G σ F H v a) (ff : Same F F') : Keep G σ F' H' v a := fun st δ => (h st δ).keep st ff
theorem rf_bin {r : R2} {f : D → D → Option Vl} {a b : De} (o : Op2 C.K r f) : ∀ σ H Q, up C (dBin f a b) σ H Q → tOp r (up C a) (up C b) σ H Q := fun σ H Q ⟨G, δ, F, hC, k, h⟩ => by
  subst hC
  refine ⟨G, δ, F, rfl, k, finA_bind h fun x δ1 v F1 H1 k1 g1 w1 h1 => ?_⟩
  obtain ⟨F2, k2, g2, w2⟩ := k1.freeze w1
  refine ⟨G, δ1, F2, rfl, k2, finA_bind (finA_mono h1 g2) fun y δ2 u F3 H3 k3 g3 w3 h3 => ?_⟩
  obtain ⟨F4, k4, g4, w4⟩ := k3.freeze w3
  obtain ⟨d, e, z, e1, e2, e3, q⟩ := lift2_fin (finA_mono h3 g4)
  have w2' : VlOk G δ2 σ F4 H3 v (fzT x) := w2.keep (fzT_stays e1) (g3.trans g4)
  exact o G δ2 σ F4 H3 v u d e z Q rfl k4 (k4.view w2' e1) (k4.view w4 e2) e3 (q H3)
theorem rf_un {r : V → Hp → VK → Prop} {f : D → Option Vl} {a : De} (o : Op1 C.K r f) : ∀ σ H Q, up C (dUn f a) σ H Q → tUn r (up C a) σ H Q := fun σ H Q ⟨G, δ, F, hC, k, h⟩ => by
  subst hC
  refine ⟨G, δ, F, rfl, k, finA_bind h fun x δ1 v F1 H1 k1 g1 w1 h1 => ?_⟩
  obtain ⟨F2, k2, g2, w2⟩ := k1.freeze w1
  obtain ⟨d, z, e1, e3, q⟩ := lift1_fin (finA_mono h1 g2)
  exact o G δ1 σ F2 H1 v d z Q rfl k2 (k2.view w2 e1) e3 (q H1)
variable {a b : Expr} {ta tb : De} {pos : Pos}
theorem pd_bin {op : Operator} {r : R2} {f : D → D → Option Vl} (ho : OpR X (binaryOp op) r) (o : Op2 C.K r f) (ha : PE X a (up C ta)) (hb : PE X b (up C tb)) : PE X (.BinOp a op b pos) (up C (dBin f ta tb)) := pe_weak (pe_op ho ha hb) (rf_bin o)
theorem pd_cmp {op : CmpOp} {r : R2} {f : D → D → Option Vl} (ho : OpR X (compareOp op) r) (o : Op2 C.K r f) (ha : PE X a (up C ta)) (hb : PE X b (up C tb)) (hm : behindInMarks op b = false) : PE X (.Compare a [op] [b] pos) (up C (dBin f ta tb)) := pe_weak (pe_cmpR ho ha hb hm) (rf_bin o)
/-- a truth as a test -/
def asB (x : Vl) (δ : DS) : R Bool := match x with
  | .fz (.bool b) => .ok b δ
  | _ => .bad
def dTest (a : De) : Dt := fun δ => (a δ).bind asB
theorem asB_fin {G : Ct} {x : Vl} {δ : DS} {σ : L2.St} {F : Hp} {Q : Bool → Hp → Prop} (h : finA G WB (asB x δ) σ F Q) : ∃ b, x = .fz (.bool b) ∧ ∀ F' H', St1 G δ σ F' H' → Same F F' → Q b H' := by
  cases x with
  | fz d => cases d with
    | bool b => exact ⟨b, rfl, fun F' H' s g => h b F' H' s g rfl⟩
    | _ => exact h.elim
  | _ => exact h.elim
theorem rf_test {te : TE} {a : De} (w : ∀ σ H Q, up C a σ H Q → te σ H Q) : ∀ σ H Q, upT C (dTest a) σ H Q → tTest te σ H Q := fun σ H Q ⟨G, δ, F, hC, k, h⟩ => by
  subst hC
  refine w σ H _ ⟨G, δ, F, rfl, k, finA_bind h fun x δ1 v F1 H1 k1 g1 w1 h1 => ?_⟩
  obtain ⟨b, rfl, q⟩ := asB_fin h1
  cases w1
  exact ⟨b, rfl, q F1 H1 k1 (Same.refl F1)⟩
theorem pdt_cmp {op : CmpOp} {r : R2} {f : D → D → Option Vl} (ho : OpR X (compareOp op) r) (o : Op2 C.K r f) (ha : PE X a (up C ta)) (hb : PE X b (up C tb)) (hm : behindInMarks op b = false) : PT X (.Compare a [op] [b] pos) (upT C (dTest (dBin f ta tb))) :=
  pt_weak (pt_cmpR ho ha hb hm) (rf_test (rf_bin o))
theorem pdt_val (h : PE X a (up C ta)) (he : ∀ whole, isTrue a X.env whole = (do let v ← whole; standAt a.pos; holding [v] (truthy v)) := by intro _; rfl) : PT X a (upT C (dTest ta)) :=
  pt_weak (pt_val h he) (rf_test fun _ _ _ q => q)
/-- chains -/
def dChain (f g : D → D → Option Vl) (a b c : De) : De := fun δ => (a δ).bind fun x δ1 => (b δ1).bind fun y δ2 => (lift2 f (vw δ2 (fzT x)) (vw δ2 (fzT y)) δ2).bind fun z δ3 => (asB z δ3).bind fun t δ4 => match t with
  | true => (c δ4).bind fun u δ5 => lift2 g (vw δ5 (fzT y)) (vw δ5 (fzT u)) δ5
  | false => .ok (.fz (.bool false)) δ4
theorem finA_bind2 {G : Ct} {α α' β' : Type} {W' : DS → Hp → Hp → β' → α' → Prop} {r : R α} {k : α → DS → R α'} {σ : L2.St} {F : Hp} {Q' : β' → Hp → Prop} {β : Type} (W : DS → Hp → Hp → β → α → Prop)
    (h : finA G W' (r.bind k) σ F Q') : finA G W r σ F (fun b H => ∃ a δ1 F1, St1 G δ1 σ F1 H ∧ Same F F1 ∧ W δ1 F1 H b a ∧ finA G W' (k a δ1) σ F1 Q') := finA_bind h fun a δ1 v F1 H1 s g w q => ⟨a, δ1, F1, s, g, w, q⟩
theorem rf_chain {r r' : R2} {f g : D → D → Option Vl} {a b c : De} (o : Op2 C.K r f) (o' : Op2 C.K r' g) : ∀ σ H Q, up C (dChain f g a b c) σ H Q → tChain r r' (up C a) (up C b) (up C c) σ H Q := fun σ H Q ⟨G, δ, F, hC, k, h⟩ => by
  subst hC
  refine ⟨G, δ, F, rfl, k, finA_bind h fun x δ1 v F1 H1 k1 g1 w1 h1 => ?_⟩
  obtain ⟨F2, k2, g2, w2⟩ := k1.freeze w1
  refine ⟨G, δ1, F2, rfl, k2, finA_bind (finA_mono h1 g2) fun y δ2 u F3 H3 k3 g3 w3 h3 => ?_⟩
  obtain ⟨F4, k4, g4, w4⟩ := k3.freeze w3
  have h4 := finA_bind2 (W := WV G σ) (finA_mono h3 g4)
  obtain ⟨d, e, z, e1, e2, e3, q⟩ := lift2_fin h4
  have w2' : VlOk G δ2 σ F4 H3 v (fzT x) := w2.keep (fzT_stays e1) (g3.trans g4)
  refine o G δ2 σ F4 H3 v u d e z _ rfl k4 (k4.view w2' e1) (k4.view w4 e2) e3 fun zv F5 H5 k5 g5 w5 => ?_
  obtain ⟨z', δ6, F6, k6, g6, w6, h6⟩ := q H3 zv F5 H5 k5 g5 w5
  have h7 := finA_bind2 (W := WB) h6
  obtain ⟨t, rfl, q7⟩ := asB_fin h7
  cases w6
  refine ⟨t, rfl, ?_⟩
  obtain ⟨t', δ8, F8, k8, g8, e8, h8⟩ := q7 F6 H5 k6 (Same.refl F6)
  have e8 : t = t' := e8
  subst e8
  cases t with
  | false => exact iteF (h8 (.bl false) F8 H5 k8 (Same.refl F8) (.bl false))
  | true =>
    refine iteT ⟨G, δ8, F8, rfl, k8, finA_bind h8 fun u' δ9 v9 F9 H9 k9 g9 w9 h9 => ?_⟩
    obtain ⟨F10, k10, g10, w10⟩ := k9.freeze w9
    obtain ⟨d', e', z2, e1', e2', e3', q'⟩ := lift2_fin (finA_mono h9 g10)
    have w4' : VlOk G δ9 σ F10 H9 u (fzT y) := w4.keep (fzT_stays e1') ((g6.trans g8).trans (g9.trans g10))
    exact o' G δ9 σ F10 H9 u v9 d' e' z2 Q rfl k10 (k10.view w4' e1') (k10.view w10 e2') e3' (q' H9)
end
end DL

set_option Elab.async false
set_option linter.all false
set_option maxRecDepth 100000
set_option autoImplicit false
namespace DL
open PySem PySem.Spec PyProof.Rows L2
variable [Tabs]
section
variable {X : Cx} {C : Cf} {e a b c : Expr} {ta tb tc : De} {pos : Pos}

/-! ### and, or, not, a if t else b -/
def dAndV (a b : De) : De := fun δ => (a δ).bind fun x δ1 => (asB x δ1).bind fun t δ2 => match t with
  | true => b δ2
  | false => .ok (.fz (.bool false)) δ2
def dOrV (a b : De) : De := fun δ => (a δ).bind fun x δ1 => (asB x δ1).bind fun t δ2 => match t with
  | true => .ok (.fz (.bool true)) δ2
  | false => b δ2
def dNotV (a : De) : De := fun δ => (a δ).bind fun x δ1 => (asB x δ1).bind fun t δ2 => .ok (.fz (.bool (!t))) δ2
def dAnd (a b : Dt) : Dt := fun δ => (a δ).bind fun t δ1 => match t with
  | true => b δ1
  | false => .ok false δ1
def dOr (a b : Dt) : Dt := fun δ => (a δ).bind fun t δ1 => match t with
  | true => .ok true δ1
  | false => b δ1
def dNot (a : Dt) : Dt := fun δ => (a δ).bind fun t δ1 => .ok (!t) δ1
def dIf (t : Dt) (a b : De) : De := fun δ => (t δ).bind fun t δ1 => match t with
  | true => a δ1
  | false => b δ1
theorem asB_bind {G : Ct} {α β : Type} {W : DS → Hp → Hp → β → α → Prop} {x : Vl} {δ : DS} {k : Bool → DS → R α} {σ : L2.St} {F H : Hp} {Q : β → Hp → Prop} {v : V} (h : finA G W ((asB x δ).bind k) σ F Q) (w : VlOk G δ σ F H v x) : ∃ t, x = .fz (.bool t) ∧ v = .bl t ∧ finA G W (k t δ) σ F Q := by
  cases x with
  | fz d => cases d with
    | bool t =>
      cases w
      exact ⟨t, rfl, rfl, h⟩
    | _ => exact h.elim
  | _ => exact h.elim
theorem pd_one {op : BoolOp} (h : PE X a (up C ta)) : PE X (.BoolOp op [a] pos) (up C ta) := pe_one h
theorem pd_and {rest : List Expr} (ha : PE X a (up C ta)) (hb : PE X (.BoolOp .And (b :: rest) pos) (up C tb)) : PE X (.BoolOp .And (a :: b :: rest) pos) (up C (dAndV ta tb)) :=
  pe_weak (pe_and ha hb) fun σ H Q ⟨G, δ, F, hC, k, h⟩ => by
    subst hC
    refine ⟨G, δ, F, rfl, k, finA_bind h fun x δ1 v F1 H1 k1 g1 w1 h1 => ?_⟩
    obtain ⟨t, rfl, rfl, h2⟩ := asB_bind h1 w1
    refine ⟨t, rfl, ?_⟩
    cases t with
    | true => exact iteT ⟨G, δ1, F1, rfl, k1, h2⟩
    | false => exact iteF (h2 _ F1 H1 k1 (Same.refl F1) (.bl false))
theorem pd_or {rest : List Expr} (ha : PE X a (up C ta)) (hb : PE X (.BoolOp .Or (b :: rest) pos) (up C tb)) : PE X (.BoolOp .Or (a :: b :: rest) pos) (up C (dOrV ta tb)) :=
  pe_weak (pe_or ha hb) fun σ H Q ⟨G, δ, F, hC, k, h⟩ => by
    subst hC
    refine ⟨G, δ, F, rfl, k, finA_bind h fun x δ1 v F1 H1 k1 g1 w1 h1 => ?_⟩
    obtain ⟨t, rfl, rfl, h2⟩ := asB_bind h1 w1
    refine ⟨t, rfl, ?_⟩
    cases t with
    | true => exact iteT (h2 _ F1 H1 k1 (Same.refl F1) (.bl true))
    | false => exact iteF ⟨G, δ1, F1, rfl, k1, h2⟩
theorem pd_not (ha : PE X a (up C ta)) : PE X (.UnaryOp .Not a pos) (up C (dNotV ta)) :=
  pe_weak (pe_not ha) fun σ H Q ⟨G, δ, F, hC, k, h⟩ => by
    subst hC
    refine ⟨G, δ, F, rfl, k, finA_bind h fun x δ1 v F1 H1 k1 g1 w1 h1 => ?_⟩
    obtain ⟨t, rfl, rfl, h2⟩ := asB_bind h1 w1
    exact ⟨t, rfl, h2 _ F1 H1 k1 (Same.refl F1) (.bl _)⟩
variable {t u : Dt}
theorem ptd_and {rest : List Expr} (ha : PT X a (upT C t)) (hb : PW X (.BoolOp .And (b :: rest) pos) (upT C u)) : PW X (.BoolOp .And (a :: b :: rest) pos) (upT C (dAnd t u)) :=
  pw_weak (pw_and ha hb) fun σ H Q ⟨G, δ, F, hC, k, h⟩ => by
    subst hC
    refine ⟨G, δ, F, rfl, k, finA_bind h fun x δ1 v F1 H1 k1 g1 w1 h1 => ?_⟩
    have w1 : v = x := w1
    subst w1
    cases v with
    | true => exact iteT ⟨G, δ1, F1, rfl, k1, h1⟩
    | false => exact iteF (h1 _ F1 H1 k1 (Same.refl F1) rfl)
theorem ptd_or {rest : List Expr} (ha : PT X a (upT C t)) (hb : PW X (.BoolOp .Or (b :: rest) pos) (upT C u)) : PW X (.BoolOp .Or (a :: b :: rest) pos) (upT C (dOr t u)) :=
  pw_weak (pw_or ha hb) fun σ H Q ⟨G, δ, F, hC, k, h⟩ => by
    subst hC
    refine ⟨G, δ, F, rfl, k, finA_bind h fun x δ1 v F1 H1 k1 g1 w1 h1 => ?_⟩
    have w1 : v = x := w1
    subst w1
    cases v with
    | true => exact iteT (h1 _ F1 H1 k1 (Same.refl F1) rfl)
    | false => exact iteF ⟨G, δ1, F1, rfl, k1, h1⟩
theorem ptd_not (ha : PT X a (upT C t)) : PT X (.UnaryOp .Not a pos) (upT C (dNot t)) :=
  pt_weak (pt_not ha) fun σ H Q ⟨G, δ, F, hC, k, h⟩ => by
    subst hC
    refine ⟨G, δ, F, rfl, k, finA_bind h fun x δ1 v F1 H1 k1 g1 w1 h1 => ?_⟩
    have w1 : v = x := w1
    subst w1
    exact h1 _ F1 H1 k1 (Same.refl F1) rfl
theorem pd_if (hc : PT X c (upT C t)) (ha : PE X a (up C ta)) (hb : PE X b (up C tb)) : PE X (.IfExp c a b pos) (up C (dIf t ta tb)) :=
  pe_weak (pe_ifExp hc ha hb) fun σ H Q ⟨G, δ, F, hC, k, h⟩ => by
    subst hC
    refine ⟨G, δ, F, rfl, k, finA_bind h fun x δ1 v F1 H1 k1 g1 w1 h1 => ?_⟩
    have w1 : v = x := w1
    subst w1
    cases v with
    | true => exact iteT ⟨G, δ1, F1, rfl, k1, h1⟩
    | false => exact iteF ⟨G, δ1, F1, rfl, k1, h1⟩

/-! ### rows of things that are kept: tuples, lists, arguments -/
def dNil : Dl := fun δ => .ok [] δ
def dCons (a : De) (l : Dl) : Dl := fun δ => (a δ).bind fun x δ1 => (kp x δ1).bind fun d δ2 => (l δ2).bind fun ds δ3 => .ok (d :: ds) δ3
theorem pad_nil : PA X [] (upL C dNil) := pa_weak pa_nil fun σ H Q ⟨G, δ, F, hC, k, h⟩ => h [] F H k (Same.refl F) .nil
theorem kp_bind {G : Ct} {α β : Type} {W : DS → Hp → Hp → β → α → Prop} {x : Vl} {δ : DS} {f : D → DS → R α} {σ : L2.St} {F H : Hp} {Q : β → Hp → Prop} {v : V} (k : St1 G δ σ F H) (h : finA G W ((kp x δ).bind f) σ F Q) (w : VlOk G δ σ F H v x) :
    ∃ d δ2 F2, St1 G δ2 σ F2 H ∧ Same F F2 ∧ Dp G.K F2 v d ∧ finA G W (f d δ2) σ F2 Q := by
  cases e : kp x δ with
  | bad => rw [e] at h; exact h.elim
  | ex cc s =>
    exfalso
    cases x with
    | fz d => cases e
    | own cc => cases cc <;> cases e
    | loc i =>
      unfold kp at e
      simp only at e
      split at e <;> cases e
  | ok d δ2 =>
    rw [e] at h
    obtain ⟨F2, k2, g2, w2⟩ := k.keepV w e
    exact ⟨d, δ2, F2, k2, g2, w2, finA_mono h g2⟩
theorem pad_cons {es : List Expr} {tl : Dl} (ha : PE X e (up C ta)) (hr : PA X es (upL C tl)) (hs : starEach (e :: es) X.env = (false, eval e X.env) :: starEach es X.env := by rfl) : PA X (e :: es) (upL C (dCons ta tl)) :=
  pa_weak (pa_cons ha hr hs) fun σ H Q ⟨G, δ, F, hC, k, h⟩ => by
    subst hC
    refine ⟨G, δ, F, rfl, k, finA_bind h fun x δ1 v F1 H1 k1 g1 w1 h1 => ?_⟩
    obtain ⟨d, δ2, F2, k2, g2, w2, h2⟩ := kp_bind k1 h1 w1
    refine ⟨G, δ2, F2, rfl, k2, finA_bind h2 fun ds δ3 vs F3 H3 k3 g3 w3 h3 => ?_⟩
    exact h3 (v :: vs) F3 H3 k3 (Same.refl F3) (.cons (dp_mono g3 _ _ w2) w3)
def small (n : Nat) : Bool := decide (n ≤ 100000)
theorem small_line {n : Nat} (h : small n = true) : n ≤ sizeLine := Nat.le_trans (of_decide_eq_true h) (by decide)
theorem small_lt {n : Nat} (h : small n = true) : n < sizeLine := Nat.lt_of_le_of_lt (of_decide_eq_true h) (by decide)
def okIf {α : Type} (b : Bool) (r : R α) : R α := match b with
  | true => r
  | false => .bad
theorem okIf_fin {G : Ct} {α β : Type} {W : DS → Hp → Hp → β → α → Prop} {t : Bool} {r : R α} {σ : L2.St} {F : Hp} {Q : β → Hp → Prop} (h : finA G W (okIf t r) σ F Q) : t = true ∧ finA G W r σ F Q := by
  cases t with
  | true => exact ⟨rfl, h⟩
  | false => exact h.elim
def dTup (l : Dl) : De := fun δ => (l δ).bind fun ds δ1 => okIf (small ds.length) (.ok (.fz (.tuple ds)) δ1)
def dLst (l : Dl) : De := fun δ => (l δ).bind fun ds δ1 => okIf (small ds.length) (.ok (.own (.lst ds)) δ1)
theorem pd_tup {es : List Expr} {x1 : Nat} {tl : Dl} (hp : PA X es (upL C tl)) : PE X (.Tuple es x1 pos) (up C (dTup tl)) :=
  pe_weak (pe_tup hp) fun σ H Q ⟨G, δ, F, hC, k, h⟩ => by
    subst hC
    refine ⟨G, δ, F, rfl, k, finA_bind h fun ds δ1 vs F1 H1 k1 g1 w1 h1 => ?_⟩
    obtain ⟨z, h2⟩ := okIf_fin h1
    have w1 : DpAll G.K F1 vs ds := w1
    refine ⟨by rw [dpa_len w1]; exact small_line z, ?_⟩
    exact Res.newT (fun v F' H' s g w => h2 v F' H' s g w) k1 w1
theorem pd_lst {es : List Expr} {tl : Dl} (hp : PA X es (upL C tl)) : PE X (.List es pos) (up C (dLst tl)) :=
  pe_weak (pe_lst hp) fun σ H Q ⟨G, δ, F, hC, k, h⟩ => by
    subst hC
    refine ⟨G, δ, F, rfl, k, finA_bind h fun ds δ1 vs F1 H1 k1 g1 w1 h1 => ?_⟩
    obtain ⟨z, h2⟩ := okIf_fin h1
    have w1 : DpAll G.K F1 vs ds := w1
    refine ⟨by rw [dpa_len w1]; exact small_line z, ?_⟩
    exact Res.newL (fun v F' H' s g w => h2 v F' H' s g w) k1 w1

/-! ### items, slices -/
theorem at_dpa {K : PySem.W.Frag} {F : Hp} {vs : List V} {ds : List D} {i : Int} {d : D} (h : DpAll K F vs ds) (e : atI ds i = some d) : ∃ v, atI vs i = some v ∧ Dp K F v d := by
  unfold atI at e ⊢
  rw [dpa_len h]
  cases q : ixN ds.length i with
  | none => rw [q] at e; cases e
  | some j =>
    rw [q] at e
    exact dpa_get h e
def fIx : D → D → Option Vl
  | .list ds, .int i => (atI ds i).map .fz
  | .tuple ds, .int i => (atI ds i).map .fz
  | .dict [(.none, .list ds)], .int i => (atI ds i).map .fz
  | .str z, .int i => match small z.length with
    | true => (atI z.cps.toList i).map fun c => .fz (.str ⟨#[c]⟩)
    | false => none
  | _, _ => none
theorem o_ix {K : PySem.W.Frag} : Op2 K (rIx K) fIx := by
  intro G δ σ F H x y d e z Q hK k hx hy ez q
  subst hK
  cases e with
  | int i =>
    have hy := hy.int
    subst hy
    cases d with
    | list ds =>
      obtain ⟨p, vs, rfl, h1, h2⟩ := hx.list k.fh
      have ez : (atI ds i).map Vl.fz = some z := ez
      cases ed : atI ds i with
      | none => rw [ed] at ez; cases ez
      | some d =>
        rw [ed] at ez
        cases ez
        obtain ⟨v, e1, e2⟩ := at_dpa h2 ed
        exact .inl ⟨p, vs, i, v, rfl, rfl, SqL.of h1, e1, q.fz k e2⟩
    | tuple ds =>
      obtain ⟨p, vs, rfl, h1, h2⟩ := hx.tup
      have ez : (atI ds i).map Vl.fz = some z := ez
      cases ed : atI ds i with
      | none => rw [ed] at ez; cases ez
      | some d =>
        rw [ed] at ez
        cases ez
        obtain ⟨v, e1, e2⟩ := at_dpa h2 ed
        exact .inr (.inl ⟨p, vs, i, v, rfl, rfl, SqT.of (k.fh _ _ h1), e1, q.fz k e2⟩)
    | str y =>
      have hx := hx.str
      subst hx
      have ez : (match small y.length with | true => (atI y.cps.toList i).map fun c => Vl.fz (.str ⟨#[c]⟩) | false => none) = some z := ez
      cases sm : small y.length with
      | false => rw [sm] at ez; cases ez
      | true =>
        rw [sm] at ez
        simp only at ez
        cases ed : atI y.cps.toList i with
        | none => rw [ed] at ez; cases ez
        | some d =>
          rw [ed] at ez
          cases ez
          exact .inr (.inr ⟨y, i, d, rfl, rfl, small_line sm, ed, q.fz k (.str _)⟩)
    | dict kvs =>
      obtain ⟨p, ns, rfl, rfl, h1⟩ := hx.scr (fun ks ds z => by subst z; cases ez) (fun x z => by subst z; cases ez) (fun z => by subst z; cases ez)
      have ez : (atI (ns.map PyData.int) i).map Vl.fz = some z := ez
      cases ed : atI (ns.map PyData.int) i with
      | none => rw [ed] at ez; cases ez
      | some d =>
        rw [ed] at ez
        cases ez
        obtain ⟨v, e1, e2⟩ := at_dpa (dpa_ints (K := G.K) (F := F) ns) ed
        exact .inl ⟨p, _, i, v, rfl, rfl, same_l k.fh h1, e1, q.fz k e2⟩
    | _ => cases ez
  | _ =>
    exfalso
    unfold fIx at ez
    split at ez <;> first | cases ez | contradiction
theorem pd_ix (ha : PE X a (up C ta)) (hb : PE X b (up C tb)) (hK : C.K = X.K := by rfl) (hs : PlainIx b := by exact fun _ _ => rfl) : PE X (.Subscript a b pos) (up C (dBin fIx ta tb)) := pe_weak (pe_ix ix_seq ha hb hs) (by rw [← hK]; exact rf_bin o_ix)
/-- bounds -/
def oNone : Dopt := fun δ => .ok none δ
def asI (x : Vl) (δ : DS) : R (Option Int) := match x with
  | .fz (.int i) => .ok (some i) δ
  | _ => .bad
def oSome (a : De) : Dopt := fun δ => (a δ).bind asI
theorem pod_none : PO X none (upO C oNone) := po_weak po_none fun σ H Q ⟨G, δ, F, hC, k, h⟩ => h none F H k (Same.refl F) rfl
theorem pod_some (hp : PE X e (up C ta)) : PO X (some e) (upO C (oSome ta)) := po_weak (po_some hp) fun σ H Q ⟨G, δ, F, hC, k, h⟩ => by
  subst hC
  refine ⟨G, δ, F, rfl, k, finA_bind h fun x δ1 v F1 H1 k1 g1 w1 h1 => ?_⟩
  cases x with
  | fz d => cases d with
    | int i =>
      cases w1
      exact ⟨i, rfl, h1 (some i) F1 H1 k1 (Same.refl F1) rfl⟩
    | _ => exact h1.elim
  | _ => exact h1.elim
def cutL {α : Type} (xs : List α) (lo hi : Option Int) : List α := (xs.drop (HT.sIx xs.length 0 lo)).take (HT.sIx xs.length xs.length hi - HT.sIx xs.length 0 lo)
theorem cutL_V (xs : List V) (lo hi : Option Int) : cutV xs lo hi = cutL xs lo hi := rfl
theorem dpa_cut {K : PySem.W.Frag} {F : Hp} {vs : List V} {ds : List D} (h : DpAll K F vs ds) (lo hi : Option Int) : DpAll K F (cutV vs lo hi) (cutL ds lo hi) := by
  unfold cutV cutL
  rw [dpa_len h]
  exact dpa_take _ (dpa_drop _ h)
def fSl (d : D) (lo hi : Option Int) : Option Vl := match d with
  | .list ds => some (.own (.lst (cutL ds lo hi)))
  | .tuple ds => some (.fz (.tuple (cutL ds lo hi)))
  | .dict [(.none, .list ds)] => some (.own (.lst (cutL ds lo hi)))
  | .str z => match small z.length with
    | true => some (.fz (.str (cutS z lo hi)))
    | false => none
  | _ => none
def liftS (x : Option D) (lo hi : Option Int) (δ : DS) : R Vl := match x with
  | some d => ret (fSl d lo hi) δ
  | none => .bad
def dSl (a : De) (l h : Dopt) : De := fun δ => (a δ).bind fun x δ1 => (l δ1).bind fun lo δ2 => (h δ2).bind fun hi δ3 => liftS (vw δ3 (fzT x)) lo hi δ3
theorem cut_whole {α : Type} (xs : List α) (lo hi : Option Int) (h : HT.sIx xs.length 0 lo = 0 ∧ HT.sIx xs.length xs.length hi = xs.length) : cutL xs lo hi = xs := by
  unfold cutL
  rw [h.1, h.2]
  simp
theorem pd_sl {lo hi : Option Expr} {tl th : Dopt} {p2 : Pos} (ha : PE X a (up C ta)) (hl : PO X lo (upO C tl)) (hh : PO X hi (upO C th)) (hK : C.K = X.K := by rfl) : PE X (.Subscript a (.Slice lo hi none p2) pos) (up C (dSl ta tl th)) :=
  pe_weak (pe_slice (SlR.or sl_list (SlR.or sl_tupA sl_str)) ha hl hh) fun σ H Q ⟨G, δ, F, hC, k, h⟩ => by
    subst hC
    refine ⟨G, δ, F, rfl, k, finA_bind h fun x δ1 v F1 H1 k1 g1 w1 h1 => ?_⟩
    obtain ⟨F2, k2, g2, w2⟩ := k1.freeze w1
    refine ⟨G, δ1, F2, rfl, k2, finA_bind (finA_mono h1 g2) fun lo' δ3 l F3 H3 k3 g3 e3 h3 => ?_⟩
    have e3 : l = lo' := e3
    subst e3
    refine ⟨G, δ3, F3, rfl, k3, finA_bind h3 fun hi' δ4 r F4 H4 k4 g4 e4 h4 => ?_⟩
    have e4 : r = hi' := e4
    subst e4
    cases ev : vw δ4 (fzT x) with
    | none => rw [ev] at h4; exact h4.elim
    | some d =>
      rw [ev] at h4
      have w2' : VlOk G δ4 σ F4 H4 v (fzT x) := w2.keep (fzT_stays ev) (g3.trans g4)
      have hx := k4.view w2' ev
      have h4 : finA G (WV G σ) (ret (fSl d l r) δ4) σ F4 Q := h4
      cases d with
      | list ds =>
        obtain ⟨p, vs, rfl, q1, q2⟩ := hx.list k4.fh
        exact .inl ⟨p, vs, rfl, SqL.of q1, Res.newL (fun v F' H' s g w => h4 v F' H' s g w) k4 (dpa_cut q2 l r)⟩
      | tuple ds =>
        obtain ⟨p, vs, rfl, q1, q2⟩ := hx.tup
        refine .inr (.inl ⟨p, vs, rfl, SqT.of (k4.fh _ _ q1), fun hw => ?_, fun _ => ?_⟩)
        · rw [dpa_len q2] at hw
          have h5 : finA G (WV G σ) (.ok (.fz (.tuple (cutL ds l r))) δ4) σ F4 Q := h4
          rw [cut_whole ds l r hw] at h5
          exact h5 _ F4 H4 k4 (Same.refl F4) (.tup q1 q2)
        · exact Res.newT (fun v F' H' s g w => h4 v F' H' s g w) k4 (dpa_cut q2 l r)
      | str z =>
        have hx := hx.str
        subst hx
        cases sm : small z.length with
        | false =>
          have e : fSl (.str z) l r = none := by show (match small z.length with | true => _ | false => none) = none; rw [sm]
          rw [e] at h4
          exact h4.elim
        | true =>
          have e : fSl (.str z) l r = some (.fz (.str (cutS z l r))) := by show (match small z.length with | true => _ | false => none) = _; rw [sm]
          rw [e] at h4
          exact .inr (.inr ⟨z, rfl, small_line sm, h4 _ F4 H4 k4 (Same.refl F4) (.str _)⟩)
      | dict kvs =>
        obtain ⟨p, ns, rfl, rfl, q1⟩ := hx.scr (fun ks ds z => by subst z; exact h4.elim) (fun x z => by subst z; exact h4.elim) (fun z => by subst z; exact h4.elim)
        exact .inl ⟨p, _, rfl, by rw [← hK]; exact same_l k4.fh q1, Res.newL (fun v F' H' s g w => h4 v F' H' s g w) k4 (dpa_cut (dpa_ints ns) l r)⟩
      | _ => exact h4.elim
end
end DL

set_option Elab.async false
set_option linter.all false
set_option maxRecDepth 100000
set_option autoImplicit false
namespace DL
open PySem PySem.Spec PyProof.Rows L2
variable [Tabs]

/-! ### the operators on data -/
def some1 (d : D) : Option Vl := some (.fz d)
/-- list + list where each may be read only -/
def rCatR : R2 := fun x y H Q => ∃ l b xs zs, x = .ref l ∧ y = .ref b ∧ H l = some (.lst xs) ∧ H b = some (.lst zs) ∧ xs.length + zs.length ≤ sizeLine ∧ ∀ p, H p = none → Q (.ref p) (upd H p (.lst (xs ++ zs)))
theorem op_catR {X : Cx} : OpR X (binaryOp .Add) rCatR := by
  intro pins s σ H x y v u Q I rx ry h
  obtain ⟨l, b, xs, zs, rfl, rfl, hH, hB, hz, q⟩ := h
  cases rx
  cases ry
  obtain ⟨z, its, n, r, e⟩ := (show ObjOk X.prog X.w H s.heap l (.lst xs) from I.hok _ _ hH)
  obtain ⟨z2, its2, n2, r2, e2⟩ := (show ObjOk X.prog X.w H s.heap b (.lst zs) from I.hok _ _ hB)
  have hl := r.length
  have hl2 := r2.length
  refine PySem.P.add_list e e2 ?_ (by rw [List.size_toArray, List.size_toArray]; omega)
  have ea : its.toArray ++ its2.toArray = (its ++ its2).toArray := by simp
  rw [ea]
  exact ⟨.ref _, _, I.lnew (t' := s.toks) (r.append r2) (by rw [List.length_append]; omega), rfl, q _ I.fresh⟩
def rRepR : R2 := fun x y H Q => ∃ l k xs, x = .ref l ∧ y = .int k ∧ H l = some (.lst xs) ∧ -(2 ^ 63) ≤ k ∧ k < 2 ^ 63 ∧ xs.length * k.toNat ≤ sizeLine ∧
  ∀ p, H p = none → Q (.ref p) (upd H p (.lst (List.replicate k.toNat xs).flatten))
theorem op_repR {X : Cx} : OpR X (binaryOp .Mult) rRepR := by
  intro pins s σ H x y v u Q I rx ry h
  obtain ⟨l, k, xs, rfl, rfl, hH, h1, h2, hz, q⟩ := h
  cases rx
  obtain ⟨t, rfl⟩ := ry
  obtain ⟨z, its, n, r, e⟩ := (show ObjOk X.prog X.w H s.heap l (.lst xs) from I.hok _ _ hH)
  have hl := r.length
  have hlen : its.toArray.size * k.toNat ≤ sizeLine := by rw [List.size_toArray, ← hl]; exact hz
  have hcap : ¬ its.toArray.size * k.toNat > (2 ^ 63 - 1) / 8 := by
    have : (sizeLine : Nat) ≤ (2 ^ 63 - 1) / 8 := by decide
    omega
  have hfit : ¬ (!Builtin.List.listFitsIndex k) = true := by
    rw [fitsIndex_both h1 h2]
    exact Bool.false_ne_true
  have hlong : ¬ Builtin.List.listTooLong (its.toArray.size * k.toNat) = true := by
    rw [notLongL hlen]
    exact Bool.false_ne_true
  have hnew : List.foldl (fun x1 x2 => x1 ++ x2) #[] (List.replicate (if its.toArray.isEmpty = true then 0 else k.toNat) its.toArray) = (List.replicate k.toNat its).flatten.toArray := by
    have f0 : ∀ m : Nat, List.foldl (fun x1 x2 => x1 ++ x2) #[] (List.replicate m its.toArray) = (List.replicate m its).flatten.toArray := fun m => by
      have := foldl_rep its m []
      rw [List.nil_append] at this
      exact this
    rw [f0]
    cases its with
    | nil => simp
    | cons a r' => rw [if_neg (by simp)]
  refine wpAny_binaryOp_repeat_ref (T := "list") (U := "int") (by decide) ⟨_, e, rfl⟩ (fun s' => typeIs_int s' k t) noFill_list_mul F.fills_int_mul F.slot_int_rmul repeat_list F.slot_int_index.lookup
    (call_meets F.slot_int_rmul (typeIs_int s k t) F.entry_int_rmul (F.args_int_rmul_2 _ _) (int___rmul___int_list k t l its.toArray n)
      ⟨e, rfl, ⟨_, e, rfl⟩, call_meets F.slot_list_mul ⟨_, e, rfl⟩ F.entry_list_mul (F.args_list_mul_2 _ _) (AutoListH.list___mul___list_int_3 l its.toArray n k t hfit hcap hlong) ⟨e, ?_⟩⟩)
  rw [hnew]
  exact ⟨.ref _, _, I.lnew (t' := s.toks) (r.rep k.toNat) (by rw [PyProof.Rows.lm_len_rep_flat, Nat.mul_comm]; exact hz), rfl, q _ I.fresh⟩

def rAddD (K : PySem.W.Frag) : R2 := fun x y H Q => rI0 (fun i j => .int (i + j)) x y H Q ∨ (∃ i k, x = .int i ∧ y = .bl k ∧ Q (.int (i + b2i k)) H) ∨ (∃ i j, x = .str i ∧ y = .str j ∧ i.length + j.length ≤ sizeLine ∧ Q (.str (i ++ j)) H) ∨ rCatR x y H Q ∨ rCatA K x y H Q
theorem op_addD {X : Cx} : OpR X (binaryOp .Add) (rAddD X.K) := op_add.or (op_add_ib.or (op_add_str.or (op_catR.or op_catA)))
def okO {α : Type} (b : Bool) (r : Option α) : Option α := match b with
  | true => r
  | false => none
theorem okO_some {α : Type} {b : Bool} {r : Option α} {z : α} (h : okO b r = some z) : b = true ∧ r = some z := by
  cases b with
  | true => exact ⟨rfl, h⟩
  | false => cases h
def fAdd : D → D → Option Vl
  | .int i, .int j => some (.fz (.int (i + j)))
  | .int i, .bool k => some (.fz (.int (i + b2i k)))
  | .str x, .str y => okO (small (x.length + y.length)) (some (.fz (.str (x ++ y))))
  | .list xs, .list ys => okO (small (xs.length + ys.length)) (some (.own (.lst (xs ++ ys))))
  | .tuple xs, .tuple ys => okO (small (xs.length + ys.length)) (some (.fz (.tuple (xs ++ ys))))
  | _, _ => none
theorem o_add {K : PySem.W.Frag} : Op2 K (rAddD K) fAdd := by
  intro G δ σ F H x y d e z Q hK k hx hy ez q
  subst hK
  cases d with
  | int i =>
    have hx := hx.int
    subst hx
    cases e with
    | int j =>
      have hy := hy.int
      subst hy
      cases ez
      exact .inl ⟨i, j, rfl, rfl, q.fz k (.int _)⟩
    | bool j =>
      have hy := hy.bl
      subst hy
      cases ez
      exact .inr (.inl ⟨i, j, rfl, rfl, q.fz k (.int _)⟩)
    | _ => cases ez
  | str i =>
    have hx := hx.str
    subst hx
    cases e with
    | str j =>
      have hy := hy.str
      subst hy
      obtain ⟨e1, e2⟩ := okO_some ez
      cases e2
      exact .inr (.inr (.inl ⟨i, j, rfl, rfl, small_line e1, q.fz k (.str _)⟩))
    | _ => cases ez
  | list xs =>
    cases e with
    | list ys =>
      obtain ⟨p, vs, rfl, h1, h2⟩ := hx.list k.fh
      obtain ⟨r, ws, rfl, h3, h4⟩ := hy.list k.fh
      obtain ⟨e1, e2⟩ := okO_some ez
      cases e2
      exact .inr (.inr (.inr (.inl ⟨p, r, vs, ws, rfl, rfl, h1, h3, by rw [dpa_len h2, dpa_len h4]; exact small_line e1, q.newL k (dpa_app h2 h4)⟩)))
    | _ => cases ez
  | tuple xs =>
    cases e with
    | tuple ys =>
      obtain ⟨p, vs, rfl, h1, h2⟩ := hx.tup
      obtain ⟨r, ws, rfl, h3, h4⟩ := hy.tup
      obtain ⟨e1, e2⟩ := okO_some ez
      cases e2
      refine .inr (.inr (.inr (.inr ⟨p, r, vs, ws, rfl, rfl, SqT.of (k.fh _ _ h1), SqT.of (k.fh _ _ h3), by rw [dpa_len h2, dpa_len h4]; exact small_line e1, fun hz => ?_, fun _ hz => ?_, fun _ _ => q.newT k (dpa_app h2 h4)⟩)))
      · subst hz
        cases h2
        exact q.fz k (.tup h3 h4)
      · subst hz
        cases h4
        rw [List.append_nil] at q
        exact q.fz k (.tup h1 h2)
    | _ => cases ez
  | _ => cases e <;> cases ez
def fSub : D → D → Option Vl
  | .int i, .int j => some (.fz (.int (i - j)))
  | _, _ => none
/-- two ints -/
theorem o_int2 {K : PySem.W.Frag} {Cd : Int → Int → Prop} {g : Int → Int → V} {f : D → D → Option Vl} (hf : ∀ d e z, f d e = some z → ∃ i j w, d = .int i ∧ e = .int j ∧ z = .fz w ∧ Cd i j ∧ ∀ F, Dp K F (g i j) w) : Op2 K (rI Cd g) f := by
  intro G δ σ F H x y d e z Q hK k hx hy ez q
  subst hK
  obtain ⟨i, j, w, rfl, rfl, rfl, hc, hw⟩ := hf d e z ez
  have hx := hx.int
  have hy := hy.int
  subst hx hy
  exact ⟨i, j, rfl, rfl, hc, q.fz k (hw F)⟩
theorem o_int20 {K : PySem.W.Frag} {g : Int → Int → V} {f : D → D → Option Vl} (hf : ∀ d e z, f d e = some z → ∃ i j w, d = .int i ∧ e = .int j ∧ z = .fz w ∧ ∀ F, Dp K F (g i j) w) : Op2 K (rI0 g) f := by
  intro G δ σ F H x y d e z Q hK k hx hy ez q
  subst hK
  obtain ⟨i, j, w, rfl, rfl, rfl, hw⟩ := hf d e z ez
  have hx := hx.int
  have hy := hy.int
  subst hx hy
  exact ⟨i, j, rfl, rfl, q.fz k (hw F)⟩
theorem o_sub {K : PySem.W.Frag} : Op2 K (rI0 fun i j => .int (i - j)) fSub := o_int20 fun d e z h => by
  cases d <;> cases e <;> first | (cases h; exact ⟨_, _, _, rfl, rfl, rfl, fun _ => .int _⟩) | cases h
/-- how large ints are that may be multiplied: a lid that is never opened but by its lemmas -/
@[irreducible] def bits : Nat := 2 ^ 400000
def wide (i : Int) : Bool := decide (i.natAbs < bits)
theorem wide_log {i : Int} (h : wide i = true) : i.natAbs.log2 < 400000 := by
  have h : i.natAbs < bits := of_decide_eq_true h
  unfold bits at h
  exact PySem.Flt.log2_lt_of (by decide) h
theorem wide_of {i : Int} {n : Nat} (h : i.natAbs < 2 ^ n) (hn : n ≤ 400000) : wide i = true := by
  refine decide_eq_true ?_
  unfold bits
  exact Nat.lt_of_lt_of_le h (Nat.pow_le_pow_right (by decide) hn)
/-- how large a divisor may be -/
@[irreducible] def bits0 : Nat := 2 ^ 9000
def slim (i : Int) : Bool := decide (i.natAbs < bits0)
theorem slim_log {i : Int} (h : slim i = true) : i.natAbs.log2 < 9000 := by
  have h : i.natAbs < bits0 := of_decide_eq_true h
  unfold bits0 at h
  exact PySem.Flt.log2_lt_of (by decide) h
theorem slim_of {i : Int} {n : Nat} (h : i.natAbs < 2 ^ n) (hn : n ≤ 9000) : slim i = true := by
  refine decide_eq_true ?_
  unfold bits0
  exact Nat.lt_of_lt_of_le h (Nat.pow_le_pow_right (by decide) hn)
def rMulD : R2 := fun x y H Q => rI CMulW (fun i j => .int (i * j)) x y H Q ∨ rRepR x y H Q
theorem op_mulD {X : Cx} : OpR X (binaryOp .Mult) rMulD := op_mulW.or op_repR
def fMul : D → D → Option Vl
  | .int i, .int j => okO (wide i && wide j) (some (.fz (.int (i * j))))
  | .list xs, .int k => okO (small (xs.length * k.toNat) && decide (-1000000 ≤ k) && decide (k ≤ 1000000)) (some (.own (.lst (List.replicate k.toNat xs).flatten)))
  | _, _ => none
theorem dpa_rep {K : PySem.W.Frag} {F : Hp} {vs : List V} {ds : List D} (h : DpAll K F vs ds) : ∀ n : Nat, DpAll K F (List.replicate n vs).flatten (List.replicate n ds).flatten
  | 0 => .nil
  | n + 1 => by
    rw [List.replicate_succ, List.replicate_succ, List.flatten_cons, List.flatten_cons]
    exact dpa_app h (dpa_rep h n)
theorem o_mul {K : PySem.W.Frag} : Op2 K rMulD fMul := by
  intro G δ σ F H x y d e z Q hK k hx hy ez q
  subst hK
  cases d with
  | int i =>
    have hx := hx.int
    subst hx
    cases e with
    | int j =>
      have hy := hy.int
      subst hy
      obtain ⟨e1, e2⟩ := okO_some ez
      cases e2
      rw [Bool.and_eq_true] at e1
      refine .inl ⟨i, j, rfl, rfl, ?_, q.fz k (.int _)⟩
      have a := wide_log e1.1
      have b := wide_log e1.2
      unfold CMulW
      omega
    | _ => cases ez
  | list xs =>
    cases e with
    | int j =>
      have hy := hy.int
      subst hy
      obtain ⟨p, vs, rfl, h1, h2⟩ := hx.list k.fh
      obtain ⟨e1, e2⟩ := okO_some ez
      cases e2
      rw [Bool.and_eq_true, Bool.and_eq_true] at e1
      obtain ⟨⟨s1, s2⟩, s3⟩ := e1
      have s2 := of_decide_eq_true s2
      have s3 := of_decide_eq_true s3
      exact .inr ⟨p, j, vs, rfl, rfl, h1, by omega, by omega, by rw [dpa_len h2]; exact small_line s1, q.newL k (dpa_rep h2 _)⟩
    | _ => cases ez
  | _ => cases e <;> cases ez
def fDiv : D → D → Option Vl
  | .int i, .int j => okO (decide (0 < j) && slim j) (some (.fz (.int (i / j))))
  | _, _ => none
theorem o_div {K : PySem.W.Frag} : Op2 K (rI CDivW fun i j => .int (i / j)) fDiv := o_int2 fun d e z h => by
  cases d with
  | int i => cases e with
    | int j =>
      obtain ⟨e1, e2⟩ := okO_some h
      cases e2
      rw [Bool.and_eq_true] at e1
      exact ⟨i, j, _, rfl, rfl, rfl, ⟨of_decide_eq_true e1.1, slim_log e1.2⟩, fun _ => .int _⟩
    | _ => cases h
  | _ => cases e <;> cases h
def fMod : D → D → Option Vl
  | .int i, .int j => okO (decide (0 < j)) (some (.fz (.int (i % j))))
  | _, _ => none
theorem o_mod {K : PySem.W.Frag} : Op2 K (rI (fun _ j => 0 < j) fun i j => .int (i % j)) fMod := o_int2 fun d e z h => by
  cases d with
  | int i => cases e with
    | int j =>
      obtain ⟨e1, e2⟩ := okO_some h
      cases e2
      exact ⟨i, j, _, rfl, rfl, rfl, of_decide_eq_true e1, fun _ => .int _⟩
    | _ => cases h
  | _ => cases e <;> cases h
def fPow : D → D → Option Vl
  | .int i, .int j => okO (decide (0 ≤ j) && decide (j ≤ 1000) && decide (-1000 ≤ i) && decide (i ≤ 1000)) (some (.fz (.int (i ^ j.toNat))))
  | _, _ => none
theorem o_pow {K : PySem.W.Frag} : Op2 K (rI CPow fun i j => .int (i ^ j.toNat)) fPow := o_int2 fun d e z h => by
  cases d with
  | int i => cases e with
    | int j =>
      obtain ⟨e1, e2⟩ := okO_some h
      cases e2
      rw [Bool.and_eq_true, Bool.and_eq_true, Bool.and_eq_true] at e1
      obtain ⟨⟨⟨a, b⟩, c⟩, d⟩ := e1
      have a := of_decide_eq_true a
      have b := of_decide_eq_true b
      have c := of_decide_eq_true c
      have d := of_decide_eq_true d
      exact ⟨i, j, _, rfl, rfl, rfl, ⟨a, by omega, by omega⟩, fun _ => .int _⟩
    | _ => cases h
  | _ => cases e <;> cases h
def fNeg : D → Option Vl
  | .int i => some (.fz (.int (-i)))
  | _ => none
theorem o_neg {K : PySem.W.Frag} : Op1 K (rU fun i => .int (-i)) fNeg := by
  intro G δ σ F H x d z Q hK k hx ez q
  subst hK
  cases d with
  | int i =>
    have hx := hx.int
    subst hx
    cases ez
    exact ⟨i, rfl, q.fz k (.int _)⟩
  | _ => cases ez
/-! ### comparisons -/
def fEq (d e : D) : Option Vl := okO (SeqAt.shaped d && SeqAt.shaped e) (some (.fz (.bool (PyData.eqv d e))))
def fNe (d e : D) : Option Vl := okO (SeqAt.shaped d && SeqAt.shaped e) (some (.fz (.bool (!PyData.eqv d e))))
theorem o_eq {K : PySem.W.Frag} : Op2 K (rEqD K) fEq := by
  intro G δ σ F H x y d e z Q hK k hx hy ez q
  subst hK
  obtain ⟨e1, e2⟩ := okO_some ez
  cases e2
  rw [Bool.and_eq_true] at e1
  exact ⟨d, e, dp_lib _ _ (SeqAt.canLay_of_shaped e1.1) (hx.dp k.fh), dp_lib _ _ (SeqAt.canLay_of_shaped e1.2) (hy.dp k.fh), e1.1, e1.2, q.fz k (.bl _)⟩
theorem o_ne {K : PySem.W.Frag} : Op2 K (rNeD K) fNe := by
  intro G δ σ F H x y d e z Q hK k hx hy ez q
  subst hK
  obtain ⟨e1, e2⟩ := okO_some ez
  cases e2
  rw [Bool.and_eq_true] at e1
  exact ⟨d, e, dp_lib _ _ (SeqAt.canLay_of_shaped e1.1) (hx.dp k.fh), dp_lib _ _ (SeqAt.canLay_of_shaped e1.2) (hy.dp k.fh), e1.1, e1.2, q.fz k (.bl _)⟩
def fCmpI (g : Int → Int → Bool) : D → D → Option Vl
  | .int i, .int j => some (.fz (.bool (g i j)))
  | _, _ => none
theorem o_cmpI {K : PySem.W.Frag} {g : Int → Int → Bool} : Op2 K (rI0 fun i j => .bl (g i j)) (fCmpI g) := o_int20 fun d e z h => by
  cases d <;> cases e <;> first | (cases h; exact ⟨_, _, _, rfl, rfl, rfl, fun _ => .bl _⟩) | cases h
def fLtI : D → D → Option Vl := fCmpI fun i j => decide (i < j)
def fGt : D → D → Option Vl := fCmpI fun i j => decide (j < i)
def fGe : D → D → Option Vl := fCmpI fun i j => decide (j ≤ i)
def fLe : D → D → Option Vl
  | .int i, .int j => some (.fz (.bool (decide (i ≤ j))))
  | .str i, .str j => some (.fz (.bool (!decide (j.cps.toList < i.cps.toList))))
  | _, _ => none
/-- is None -/
def fIsN (d e : D) : Option Vl := match e with
  | .none => match d with
    | .none => some (.fz (.bool true))
    | _ => some (.fz (.bool false))
  | _ => none
def fNotN (d e : D) : Option Vl := match e with
  | .none => match d with
    | .none => some (.fz (.bool false))
    | _ => some (.fz (.bool true))
  | _ => none
theorem Vw.isN {K : PySem.W.Frag} {F H : Hp} {v : V} {d : D} (h : Vw K F H v d) : (v = .non ↔ d = .none) := by
  rcases h with h | ⟨p, vs, ds, rfl, rfl, _⟩
  · cases h <;> simp
  · simp
theorem o_isN {K : PySem.W.Frag} : Op2 K (fun x y H Q => y = .non ∧ Q (.bl (decide (x = .non))) H) fIsN := by
  intro G δ σ F H x y d e z Q hK k hx hy ez q
  subst hK
  cases e with
  | none =>
    have hy := hy.non
    have hi := hx.isN
    refine ⟨hy, ?_⟩
    cases d with
    | none => cases ez; rw [decide_eq_true (hi.mpr rfl)]; exact q.fz k (.bl _)
    | _ => cases ez; rw [decide_eq_false (fun z => by cases hi.mp z)]; exact q.fz k (.bl _)
  | _ => cases ez
theorem o_notN {K : PySem.W.Frag} : Op2 K (fun x y H Q => y = .non ∧ Q (.bl (!decide (x = .non))) H) fNotN := by
  intro G δ σ F H x y d e z Q hK k hx hy ez q
  subst hK
  cases e with
  | none =>
    have hy := hy.non
    have hi := hx.isN
    refine ⟨hy, ?_⟩
    cases d with
    | none => cases ez; rw [decide_eq_true (hi.mpr rfl)]; exact q.fz k (.bl _)
    | _ => cases ez; rw [decide_eq_false (fun z => by cases hi.mp z)]; exact q.fz k (.bl _)
  | _ => cases ez
end DL

set_option Elab.async false
set_option linter.all false
set_option maxRecDepth 100000
set_option autoImplicit false
namespace DL
open PySem PySem.Spec PyProof.Rows L2
variable [Tabs]

/-! ### statements -/
inductive Out where
  | nx | bk | ct | rt (v : Vl)
abbrev Ds := DS → R Out
def finS (G : Ct) (r : R Out) (F : Hp) (D : Ends) : Prop := match r with
  | .ok .nx δ' => ∀ σ' F' H', St1 G δ' σ' F' H' → Same F F' → D.nx σ' H'
  | .ok .bk δ' => ∀ σ' F' H', St1 G δ' σ' F' H' → Same F F' → D.bk σ' H'
  | .ok .ct δ' => ∀ σ' F' H', St1 G δ' σ' F' H' → Same F F' → D.ct σ' H'
  | .ok (.rt a) δ' => ∀ v σ' F' H', St1 G δ' σ' F' H' → Same F F' → VlOk G δ' σ' F' H' v a → D.rt v H'
  | .ex c δ' => ∀ σ' F' H', St1 G δ' σ' F' H' → Same F F' → G.E σ' c none H'
  | .bad => False
def ups (C : Cf) (sd : Ds) : TS := fun D σ H => ∃ G δ F, G.C = C ∧ St1 G δ σ F H ∧ finS G (sd δ) F D
theorem finS_mono {G : Ct} {r : R Out} {F F1 : Hp} {D : Ends} (h : finS G r F D) (f : Same F F1) : finS G r F1 D := by
  cases r with
  | ok a δ => cases a with
    | nx => exact fun σ' F' H' s g => h σ' F' H' s (f.trans g)
    | bk => exact fun σ' F' H' s g => h σ' F' H' s (f.trans g)
    | ct => exact fun σ' F' H' s g => h σ' F' H' s (f.trans g)
    | rt v => exact fun v σ' F' H' s g w => h v σ' F' H' s (f.trans g) w
  | ex c δ => exact fun σ' F' H' s g => h σ' F' H' s (f.trans g)
  | bad => exact h
/-- an expression first -/
theorem finS_bind {α β : Type} {G : Ct} {W : DS → Hp → Hp → β → α → Prop} {r : R α} {k : α → DS → R Out} {σ : L2.St} {F : Hp} {D : Ends} {Q : β → Hp → Prop} (h : finS G (r.bind k) F D)
    (hk : ∀ a δ1 v F1 H1, St1 G δ1 σ F1 H1 → Same F F1 → W δ1 F1 H1 v a → finS G (k a δ1) F1 D → Q v H1) : finA G W r σ F Q := by
  cases r with
  | ok a δ => exact fun v F1 H1 s g w => hk a δ v F1 H1 s g w (finS_mono h g)
  | ex c δ => exact fun F' H' s g => h σ F' H' s g
  | bad => exact h
theorem kp_bindS {G : Ct} {x : Vl} {δ : DS} {f : D → DS → R Out} {σ : L2.St} {F H : Hp} {D : Ends} {v : V} (k : St1 G δ σ F H) (h : finS G ((kp x δ).bind f) F D) (w : VlOk G δ σ F H v x) :
    ∃ d δ2 F2, St1 G δ2 σ F2 H ∧ Same F F2 ∧ Dp G.K F2 v d ∧ finS G (f d δ2) F2 D := by
  cases e : kp x δ with
  | bad => rw [e] at h; exact h.elim
  | ex cc s =>
    exfalso
    cases x with
    | fz d => cases e
    | own cc => cases cc <;> cases e
    | loc i =>
      unfold kp at e
      simp only at e
      split at e <;> cases e
  | ok d δ2 =>
    rw [e] at h
    obtain ⟨F2, k2, g2, w2⟩ := k.keepV w e
    exact ⟨d, δ2, F2, k2, g2, w2, finS_mono h g2⟩
theorem okIf_finS {G : Ct} {t : Bool} {r : R Out} {F : Hp} {D : Ends} (h : finS G (okIf t r) F D) : t = true ∧ finS G r F D := by
  cases t with
  | true => exact ⟨rfl, h⟩
  | false => exact h.elim

/-! ### slots are stored -/
section
variable {G : Ct} {δ : DS} {σ : L2.St} {F H : Hp}
theorem St1.M_none (k : St1 G δ σ F H) {i : Nat} {s : Sl} (h : δ[i]? = some s) (hs : s.isArg = false) : G.M i = none := by
  cases e : G.M i with
  | none => rfl
  | some p =>
    obtain ⟨c, hc⟩ := k.ma i p e
    rw [h] at hc
    cases hc
    cases hs
theorem St1.lt (k : St1 G δ σ F H) {i : Nat} {s : Sl} (h : δ[i]? = some s) : i < δ.length ∧ i < σ.length := by
  have h1 := (List.getElem?_eq_some_iff.mp h).1
  exact ⟨h1, by rw [← k.len]; exact h1⟩
theorem St1.setFz (k : St1 G δ σ F H) {i : Nat} {s : Sl} {v : V} {d : D} (h : δ[i]? = some s) (hs : s.isArg = false) (w : Dp G.K F v d) : St1 G (δ.set i (.fz d)) (σ.set i (some v)) F H where
  len := by simpa using k.len
  fh := k.fh
  f0 := k.f0
  h0 := k.h0
  fn := k.fn
  sl := fun j t e => by
    obtain ⟨l1, l2⟩ := k.lt h
    by_cases hj : j = i
    · subst hj
      rw [List.getElem?_set_self l1] at e
      cases e
      rw [List.getElem?_set_self l2]
      exact ⟨v, rfl, w⟩
    · rw [List.getElem?_set_ne (Ne.symm hj)] at e ⊢
      exact k.sl j t e
  di := fun j j' t t' p hj e e' q q' r r' => by
    obtain ⟨l1, l2⟩ := k.lt h
    have a1 : j ≠ i := fun z => by subst z; rw [List.getElem?_set_self l1] at e; cases e; cases q
    have a2 : j' ≠ i := fun z => by subst z; rw [List.getElem?_set_self l1] at e'; cases e'; cases q'
    rw [List.getElem?_set_ne (Ne.symm a1)] at e r
    rw [List.getElem?_set_ne (Ne.symm a2)] at e' r'
    exact k.di j j' t t' p hj e e' q q' r r'
  tb := k.tb
  ma := fun j p e => by
    have a1 : j ≠ i := fun z => by subst z; rw [k.M_none h hs] at e; cases e
    rw [List.getElem?_set_ne (Ne.symm a1)]
    exact k.ma j p e
theorem St1.setOwn (k : St1 G δ σ F H) {i : Nat} {s : Sl} {v : V} {c : Co} (h : δ[i]? = some s) (hs : s.isArg = false) (w : VlOk G δ σ F H v (.own c)) : St1 G (δ.set i (.own c)) (σ.set i (some v)) F H where
  len := by simpa using k.len
  fh := k.fh
  f0 := k.f0
  h0 := k.h0
  fn := k.fn
  sl := fun j t e => by
    obtain ⟨l1, l2⟩ := k.lt h
    by_cases hj : j = i
    · subst hj
      rw [List.getElem?_set_self l1] at e
      cases e
      rw [List.getElem?_set_self l2]
      obtain ⟨p, o, rfl, h1, h2, h3, h4, _⟩ := w
      exact ⟨p, o, rfl, h1, h2, h3, k.M_none h hs, h4⟩
    · rw [List.getElem?_set_ne (Ne.symm hj)] at e ⊢
      exact k.sl j t e
  di := fun j j' t t' p hj e e' q q' r r' => by
    obtain ⟨l1, l2⟩ := k.lt h
    obtain ⟨p', o, rfl, h1, h2, h3, h4, h5⟩ := w
    by_cases a1 : j = i
    · subst a1
      rw [List.getElem?_set_ne hj] at e' r'
      rw [List.getElem?_set_self l2] at r
      cases r
      exact h5 j' t' e' q' r'
    · rw [List.getElem?_set_ne (Ne.symm a1)] at e r
      by_cases a2 : j' = i
      · subst a2
        rw [List.getElem?_set_self l2] at r'
        cases r'
        exact h5 j t e q r
      · rw [List.getElem?_set_ne (Ne.symm a2)] at e' r'
        exact k.di j j' t t' p hj e e' q q' r r'
  tb := k.tb
  ma := fun j p e => by
    have a1 : j ≠ i := fun z => by subst z; rw [k.M_none h hs] at e; cases e
    rw [List.getElem?_set_ne (Ne.symm a1)]
    exact k.ma j p e
/-- what an own or handed object holds is changed -/
def Sl.with (s : Sl) (c : Co) : Sl := match s with
  | .own _ => .own c
  | .arg _ => .arg c
  | x => x
def Sl.co : Sl → Option Co
  | .own c => some c
  | .arg c => some c
  | _ => none
theorem St1.held (k : St1 G δ σ F H) {i : Nat} {s : Sl} {c : Co} (h : δ[i]? = some s) (hc : s.co = some c) : ∃ p o, σ[i]? = some (some (.ref p)) ∧ H p = some o ∧ F p = none ∧ CoOk G.K F c o := by
  have z := k.sl i s h
  cases s with
  | own c' => cases hc; obtain ⟨p, o, e1, e2, e3, e4, _⟩ := z; exact ⟨p, o, e1, e2, e3, e4⟩
  | arg c' => cases hc; obtain ⟨p, o, e1, e2, e3, e4, _⟩ := z; exact ⟨p, o, e1, e2, e3, e4⟩
  | _ => cases hc
theorem St1.change (k : St1 G δ σ F H) {i : Nat} {s : Sl} {c c' : Co} {p : Addr} {o' : HO} (h : δ[i]? = some s) (hc : s.co = some c) (hp : σ[i]? = some (some (.ref p))) (w : CoOk G.K F c' o') : St1 G (δ.set i (s.with c')) σ F (upd H p o') where
  len := by simpa using k.len
  fh := fun b o e => by
    obtain ⟨p', o0, e1, e2, e3, _⟩ := k.held h hc
    rw [hp] at e1
    cases e1
    rw [upd_ne (fun z => by subst z; rw [e3] at e; cases e)]
    exact k.fh _ _ e
  f0 := k.f0
  h0 := fun b o hm e => by
    have nb : b ≠ p := fun z => by
      subst z
      have z := k.sl i s h
      cases s with
      | own c' => obtain ⟨p', o0, e1, _, _, _, _, e2⟩ := z; rw [hp] at e1; cases e1; rw [e2] at e; cases e
      | arg c' => obtain ⟨p', o0, e1, _, _, _, e2⟩ := z; rw [hp] at e1; cases e1; exact hm i e2
      | _ => cases hc
    rw [upd_ne nb]
    exact k.h0 b o hm e
  fn := k.fn
  sl := fun j t e => by
    obtain ⟨l1, l2⟩ := k.lt h
    have sh : s.held = true := by cases s <;> first | rfl | cases hc
    by_cases hj : j = i
    · subst hj
      rw [List.getElem?_set_self l1] at e
      cases e
      have z := k.sl j s h
      cases s with
      | own c' =>
        obtain ⟨p', o0, e1, e2, e3, e4, e5, e6⟩ := z
        rw [hp] at e1; cases e1
        exact ⟨p, o', hp, upd_same, e3, w, e5, e6⟩
      | arg c' =>
        obtain ⟨p', o0, e1, e2, e3, e4, e5⟩ := z
        rw [hp] at e1; cases e1
        exact ⟨p, o', hp, upd_same, e3, w, e5⟩
      | _ => cases hc
    · rw [List.getElem?_set_ne (Ne.symm hj)] at e
      refine (k.sl j t e).mono (Same.refl F) fun b o g1 g2 g3 g4 => ⟨?_, g1⟩
      rw [upd_ne (fun z => by subst z; exact k.di j i t s b hj e h g3 sh g4 hp)]
      exact g2
  di := fun j j' t t' q hj e e' q1 q2 r r' => by
    obtain ⟨l1, l2⟩ := k.lt h
    have sh : s.held = true := by cases s <;> first | rfl | cases hc
    have back : ∀ (m : Nat) (u : Sl), (δ.set i (s.with c'))[m]? = some u → u.held = true → ∃ u', δ[m]? = some u' ∧ u'.held = true := fun m u z zh => by
      by_cases hm : m = i
      · subst hm; exact ⟨s, h, sh⟩
      · rw [List.getElem?_set_ne (Ne.symm hm)] at z; exact ⟨u, z, zh⟩
    obtain ⟨u, a1, a2⟩ := back j t e q1
    obtain ⟨u', b1, b2⟩ := back j' t' e' q2
    exact k.di j j' u u' q hj a1 b1 a2 b2 r r'
  tb := k.tb
  ma := fun j q e => by
    obtain ⟨l1, l2⟩ := k.lt h
    obtain ⟨c0, hc0⟩ := k.ma j q e
    by_cases hj : j = i
    · subst hj
      rw [h] at hc0
      cases hc0
      exact ⟨c', List.getElem?_set_self l1⟩
    · rw [List.getElem?_set_ne (Ne.symm hj)]
      exact ⟨c0, hc0⟩
end

/-! ### statements, one by one -/
section
variable {X : Cx} {C : Cf} {e a b c : Expr} {ta tb tc : De} {pos : Pos} {st : Stmt} {rest : List Stmt} {s1 s2 : Ds}
def dSkip : Ds := fun δ => .ok .nx δ
def dSeq (s t : Ds) : Ds := fun δ => match s δ with
  | .ok .nx δ1 => t δ1
  | r => r
theorem pds_nil : PSs X [] (ups C dSkip) := pss_weak pss_nil fun D σ H ⟨G, δ, F, hC, k, h⟩ => h σ F H k (Same.refl F)
theorem finS_seq {G : Ct} {s t : Ds} {δ : DS} {F : Hp} {D : Ends} (h : finS G (dSeq s t δ) F D) (hC : G.C = C) : finS G (s δ) F { D with nx := ups C t D } := by
  unfold dSeq at h
  cases e : s δ with
  | ok o δ1 =>
    rw [e] at h
    cases o with
    | nx => exact fun σ' F' H' k g => ⟨G, δ1, F', hC, k, finS_mono h g⟩
    | bk => exact h
    | ct => exact h
    | rt v => exact h
  | ex c δ1 => rw [e] at h; exact h
  | bad => rw [e] at h; exact h
theorem pds_cons (h1 : PS X st (ups C s1)) (h2 : PSs X rest (ups C s2)) : PSs X (st :: rest) (ups C (dSeq s1 s2)) := pss_weak (pss_cons h1 h2) fun D σ H ⟨G, δ, F, hC, k, h⟩ => ⟨G, δ, F, hC, k, finS_seq h hC⟩
theorem pds_one (h1 : PS X st (ups C s1)) : PSs X [st] (ups C s1) := pss_one h1
def dBreak : Ds := fun δ => .ok .bk δ
def dCont : Ds := fun δ => .ok .ct δ
theorem pds_pass : PS X (.Pass pos) (ups C dSkip) := ps_weak ps_pass fun D σ H ⟨G, δ, F, hC, k, h⟩ => h σ F H k (Same.refl F)
theorem pds_break : PS X (.Break pos) (ups C dBreak) := ps_weak ps_break fun D σ H ⟨G, δ, F, hC, k, h⟩ => h σ F H k (Same.refl F)
theorem pds_continue : PS X (.Continue pos) (ups C dCont) := ps_weak ps_continue fun D σ H ⟨G, δ, F, hC, k, h⟩ => h σ F H k (Same.refl F)
/-- what is never come to -/
def dNever : Ds := fun _ => .bad
theorem pds_never : PS X st (ups C dNever) := ps_weak ps_never fun D σ H ⟨G, δ, F, hC, k, h⟩ => h
def dRet (a : De) : Ds := fun δ => (a δ).bind fun x δ1 => .ok (.rt x) δ1
theorem pds_ret (ha : PE X e (up C ta)) : PS X (.Return (some e) pos) (ups C (dRet ta)) := ps_weak (ps_ret ha) fun D σ H ⟨G, δ, F, hC, k, h⟩ => by
  subst hC
  exact ⟨G, δ, F, rfl, k, finS_bind h fun x δ1 v F1 H1 k1 g1 w1 h1 => h1 v σ F1 H1 k1 (Same.refl F1) w1⟩
def dRetN : Ds := fun δ => .ok (.rt (.fz .none)) δ
theorem pds_retN : PS X (.Return none pos) (ups C dRetN) := ps_weak ps_retN fun D σ H ⟨G, δ, F, hC, k, h⟩ => h .non σ F H k (Same.refl F) .non
def dIfS (t : Dt) (a b : Ds) : Ds := fun δ => (t δ).bind fun t δ1 => match t with
  | true => a δ1
  | false => b δ1
theorem pds_if {t : Dt} {aa bb : List Stmt} (hc : PT X c (upT C t)) (ha : PSs X aa (ups C s1)) (hb : PSs X bb (ups C s2)) : PS X (.If c aa bb pos) (ups C (dIfS t s1 s2)) := ps_weak (ps_if hc ha hb) fun D σ H ⟨G, δ, F, hC, k, h⟩ => by
  subst hC
  refine ⟨G, δ, F, rfl, k, finS_bind h fun x δ1 v F1 H1 k1 g1 w1 h1 => ?_⟩
  have w1 : v = x := w1
  subst w1
  cases v with
  | true => exact iteT ⟨G, δ1, F1, rfl, k1, h1⟩
  | false => exact iteF ⟨G, δ1, F1, rfl, k1, h1⟩
def dDrop (a : De) : Ds := fun δ => (a δ).bind fun _ δ1 => .ok .nx δ1
theorem pds_expr (ha : PE X e (up C ta)) (hs : swapsWith e none pos.line X.env = pure false := by rfl) : PS X (.Expr e pos) (ups C (dDrop ta)) := ps_weak (ps_expr ha hs) fun D σ H ⟨G, δ, F, hC, k, h⟩ => by
  subst hC
  exact ⟨G, δ, F, rfl, k, finS_bind h fun x δ1 v F1 H1 k1 g1 w1 h1 => h1 σ F1 H1 k1 (Same.refl F1)⟩
theorem pds_doc {x : Str} {j : Nat} {pos' : Pos} : PS X (.Expr (.Constant (.str x) j pos) pos') (ups C dSkip) := ps_weak ps_doc fun D σ H ⟨G, δ, F, hC, k, h⟩ => h σ F H k (Same.refl F)

/-! ### targets -/
/-- slot i takes a value -/
def okSet (δ : DS) (i : Nat) : Bool := match δ[i]? with
  | some (.arg _) => false
  | some _ => true
  | none => false
theorem okSet_some {δ : DS} {i : Nat} (h : okSet δ i = true) : ∃ s, δ[i]? = some s ∧ s.isArg = false := by
  unfold okSet at h
  cases e : δ[i]? with
  | none => rw [e] at h; cases h
  | some s =>
    rw [e] at h
    refine ⟨s, rfl, ?_⟩
    cases s with
    | arg c => cases h
    | _ => rfl
def setS (i : Nat) (x : Vl) (δ : DS) : R Out := match x with
  | .fz d => okIf (okSet δ i) (.ok .nx (δ.set i (.fz d)))
  | .own c => okIf (okSet δ i) (.ok .nx (δ.set i (.own c)))
  | .loc j => (kp (.loc j) δ).bind fun d δ1 => okIf (okSet δ1 i) (.ok .nx (δ1.set i (.fz d)))
def dAsg (i : Nat) (a : De) : Ds := fun δ => (a δ).bind fun x δ1 => setS i x δ1
theorem setS_fin {G : Ct} {i : Nat} {x : Vl} {δ : DS} {σ : L2.St} {F H : Hp} {D : Ends} {v : V} (k : St1 G δ σ F H) (h : finS G (setS i x δ) F D) (w : VlOk G δ σ F H v x) : D.nx (σ.set i (some v)) H := by
  cases x with
  | fz d =>
    obtain ⟨z, h⟩ := okIf_finS h
    obtain ⟨s, e, ha⟩ := okSet_some z
    exact h _ F H (k.setFz e ha w) (Same.refl F)
  | own c =>
    obtain ⟨z, h⟩ := okIf_finS h
    obtain ⟨s, e, ha⟩ := okSet_some z
    exact h _ F H (k.setOwn e ha w) (Same.refl F)
  | loc j =>
    obtain ⟨d, δ2, F2, k2, g2, w2, h2⟩ := kp_bindS k h w
    obtain ⟨z, h⟩ := okIf_finS h2
    obtain ⟨s, e, ha⟩ := okSet_some z
    exact h _ F2 H (k2.setFz e ha w2) (Same.refl F2)
theorem rf_asg {te : TE} {i : Nat} (w : ∀ σ H Q, up C ta σ H Q → te σ H Q) : ∀ D σ H, ups C (dAsg i ta) D σ H → tAsg te (gName i) D σ H := fun D σ H ⟨G, δ, F, hC, k, h⟩ => by
  subst hC
  exact w σ H _ ⟨G, δ, F, rfl, k, finS_bind h fun x δ1 v F1 H1 k1 g1 w1 h1 => setS_fin k1 h1 w1⟩
theorem pds_set (i : Nat) {x : Str} {pos' : Pos} (he : PE X e (up C ta)) (hN : X.N.Nodup) (hi : X.N[i]? = some x := by rfl) (hx : Loc X.env.scope x := by first | exact Or.inl rfl | exact Or.inr rfl) (hs : swapsWith e (some (.Name x pos')) pos.line X.env = pure false := by rfl) (hf : X.fn x = true ∨ X.env.scope.names.lookup x = some .local := by first | exact .inl rfl | exact .inr rfl | assumption) :
    PS X (.Assign [.Name x pos'] e pos) (ups C (dAsg i ta)) := ps_weak (ps_set hN hi hx he hs hf) (rf_asg fun _ _ _ q => q)
/-- targets of frozen things -/
abbrev Dg := D → DS → R Out
def gN (i : Nat) : Dg := fun d δ => setS i (.fz d) δ
def Agr (ts : List Nat) (σ σ' : L2.St) : Prop := (∀ j, j ∉ ts → σ'[j]? = σ[j]?) ∧ σ'.length = σ.length
def finG (G : Ct) (r : R Out) (ts : List Nat) (σ : L2.St) (F : Hp) (Q : L2.St → Hp → Prop) : Prop := match r with
  | .ok .nx δ' => ∀ σ' F' H', St1 G δ' σ' F' H' → Same F F' → Agr ts σ σ' → Q σ' H'
  | _ => False
def upG (C : Cf) (ts : List Nat) (g : Dg) : TG := fun v σ H Q => ∃ G δ F d, G.C = C ∧ St1 G δ σ F H ∧ Dp C.K F v d ∧ finG G (g d δ) ts σ F Q
abbrev Dgs := List D → DS → R Out
def upGs (C : Cf) (ts : List Nat) (g : Dgs) : TGs := fun vs σ H Q => ∃ G δ F ds, G.C = C ∧ St1 G δ σ F H ∧ DpAll C.K F vs ds ∧ finG G (g ds δ) ts σ F Q
theorem pg_weak {t t' : TG} (h : PG X e t) (w : ∀ v σ H Q, t' v σ H Q → t v σ H Q) : PG X e t' := ⟨fun pins s σ H v u Q I r q => h.run pins s σ H v u Q I r (w v σ H Q q)⟩
theorem pgs_weak {es : List Expr} {t t' : TGs} (h : PGs X es t) (w : ∀ v σ H Q, t' v σ H Q → t v σ H Q) : PGs X es t' := ⟨fun pins s σ H v u Q I r q => h.run pins s σ H v u Q I r (w v σ H Q q)⟩
theorem pdg_name (i : Nat) {x : Str} (hN : X.N.Nodup) (hi : X.N[i]? = some x := by rfl) (hx : Loc X.env.scope x := by first | exact Or.inl rfl | exact Or.inr rfl) (hf : X.fn x = true ∨ X.env.scope.names.lookup x = some .local := by first | exact .inl rfl | exact .inr rfl | assumption) : PG X (.Name x pos) (upG C [i] (gN i)) :=
  pg_weak (pg_name hN hi hx hf) fun v σ H Q ⟨G, δ, F, d, hC, k, w, h⟩ => by
    subst hC
    cases z : okSet δ i with
    | false =>
      have e : gN i d δ = .bad := by show okIf (okSet δ i) _ = _; rw [z]; rfl
      rw [e] at h
      exact h.elim
    | true =>
      have e : gN i d δ = .ok .nx (δ.set i (.fz d)) := by show okIf (okSet δ i) _ = _; rw [z]; rfl
      rw [e] at h
      obtain ⟨s, e, ha⟩ := okSet_some z
      exact h _ F H (k.setFz e ha w) (Same.refl F) ⟨fun j hj => by
        rw [List.getElem?_set_ne (fun z => hj (by simp [z]))], by simp⟩
def gsNil : Dgs := fun ds δ => match ds with
  | [] => .ok .nx δ
  | _ => .bad
def gsCons (g : Dg) (r : Dgs) : Dgs := fun ds δ => match ds with
  | [] => .bad
  | d :: ds => match g d δ with
    | .ok .nx δ1 => r ds δ1
    | _ => .bad
theorem pdgs_nil : PGs X [] (upGs C [] gsNil) := pgs_weak pgs_nil fun vs σ H Q ⟨G, δ, F, ds, hC, k, w, h⟩ => by
  cases w with
  | nil => exact ⟨rfl, h σ F H k (Same.refl F) ⟨fun _ _ => rfl, rfl⟩⟩
  | cons _ _ => exact h.elim
theorem pdgs_cons {es : List Expr} {ts us : List Nat} {g : Dg} {r : Dgs} (h1 : PG X e (upG C ts g)) (h2 : PGs X es (upGs C us r)) (hs : (assignEach (e :: es) X.env).map (·.2) = assign e X.env :: (assignEach es X.env).map (·.2) := by rfl) : PGs X (e :: es) (upGs C (ts ++ us) (gsCons g r)) :=
  pgs_weak (pgs_cons h1 h2 hs) fun vs σ H Q ⟨G, δ, F, ds, hC, k, w, h⟩ => by
    subst hC
    cases w with
    | nil => exact h.elim
    | @cons v vs d ds w ws =>
      refine ⟨v, vs, rfl, G, δ, F, d, rfl, k, w, ?_⟩
      unfold gsCons at h
      simp only at h
      cases e1 : g d δ with
      | ok o δ1 =>
        rw [e1] at h
        cases o with
        | nx =>
          intro σ1 F1 H1 k1 f1 a1
          refine ⟨G, δ1, F1, ds, rfl, k1, dpa_mono f1 _ _ ws, ?_⟩
          have h : finG G (r ds δ1) (ts ++ us) σ F Q := h
          cases e2 : r ds δ1 with
          | ok o δ2 =>
            rw [e2] at h
            cases o with
            | nx =>
              exact fun σ2 F2 H2 k2 f2 a2 => h σ2 F2 H2 k2 (f1.trans f2) ⟨fun j hj => by
                rw [List.mem_append] at hj
                rw [a2.1 j fun z => hj (.inr z), a1.1 j fun z => hj (.inl z)], a2.2.trans a1.2⟩
            | _ => exact h.elim
          | _ => rw [e2] at h; exact h.elim
        | _ => exact h.elim
      | _ => rw [e1] at h; exact h.elim
def gTupD (n : Nat) (r : Dgs) : Dg := fun d δ => match d with
  | .tuple ds => match ds.length == n with
    | true => r ds δ
    | false => .bad
  | .list ds => match ds.length == n with
    | true => r ds δ
    | false => .bad
  | _ => .bad
theorem pg_two {tg : Expr} {t t' : TG} (h : PG X tg t) (h' : PG X tg t') : PG X tg fun v σ H Q => t v σ H Q ∨ t' v σ H Q := ⟨fun pins s σ H v u Q I r hw => hw.elim (h.run pins s σ H v u Q I r) (h'.run pins s σ H v u Q I r)⟩
theorem pdg_tup {es : List Expr} {kk n : Nat} {ts : List Nat} {r : Dgs} (h : PGs X es (upGs C ts r)) (hc : X.calm = true := by rfl) (hK : C.K = X.K := by rfl) (hn : (assignEach es X.env).length = n := by rfl) (hst : (assignEach es X.env).findIdx? (·.1) = none := by rfl) :
    PG X (.Tuple es kk pos) (upG C ts (gTupD n r)) := pg_weak (pg_two (pg_tup hc h hn hst) (pg_unl hc h hn hst)) fun v σ H Q ⟨G, δ, F, d, hC, k, w, h⟩ => by
  subst hC
  cases d with
  | tuple ds =>
    cases w with
    | @tup a vs _ q ws =>
      have h : finG G (match ds.length == n with | true => r ds δ | false => .bad) ts σ F Q := h
      cases e : ds.length == n with
      | false => rw [e] at h; exact h.elim
      | true =>
        rw [e] at h
        exact .inl ⟨a, vs, rfl, SqT.of (k.fh _ _ q), by rw [dpa_len ws]; exact eq_of_beq e, G, δ, F, ds, rfl, k, ws, h⟩
  | list ds =>
    cases w with
    | @lst a vs _ q ws =>
      have h : finG G (match ds.length == n with | true => r ds δ | false => .bad) ts σ F Q := h
      cases e : ds.length == n with
      | false => rw [e] at h; exact h.elim
      | true =>
        rw [e] at h
        exact .inr ⟨a, vs, rfl, SqL.of (k.fh _ _ q), by rw [dpa_len ws]; exact eq_of_beq e, G, δ, F, ds, rfl, k, ws, h⟩
  | _ => exact h.elim
/-- any target = value -/
def onlyNx (r : R Out) : R Out := match r with
  | .ok .nx δ => .ok .nx δ
  | _ => .bad
theorem onlyNx_fin {G : Ct} {r : R Out} {F : Hp} {D : Ends} {ts : List Nat} {σ : L2.St} (h : finS G (onlyNx r) F D) : finG G r ts σ F D.nx := by
  cases r with
  | ok o δ => cases o with
    | nx => exact fun σ' F' H' k' f' _ => h σ' F' H' k' f'
    | _ => exact h.elim
  | _ => exact h.elim
def dAsgG (g : Dg) (a : De) : Ds := fun δ => (a δ).bind fun x δ1 => (kp x δ1).bind fun d δ2 => onlyNx (g d δ2)
theorem pds_asg {tg : Expr} {ts : List Nat} {g : Dg} (he : PE X e (up C ta)) (hg : PG X tg (upG C ts g)) (hs : swapsWithSole [tg] e pos.line X.env = pure false := by rfl) (hw : swappedStores [tg] e X.env = pure none := by rfl)
    (h1 : (assignEach [tg] X.env).map (·.2) = [assign tg X.env] := by rfl) : PS X (.Assign [tg] e pos) (ups C (dAsgG g ta)) := ps_weak (ps_asg he hg hs hw h1) fun D σ H ⟨G, δ, F, hC, k, h⟩ => by
  subst hC
  refine ⟨G, δ, F, rfl, k, finS_bind h fun x δ1 v F1 H1 k1 g1 w1 h1 => ?_⟩
  obtain ⟨d, δ2, F2, k2, g2, w2, h2⟩ := kp_bindS k1 h1 w1
  exact ⟨G, δ2, F2, d, rfl, k2, w2, onlyNx_fin h2⟩
end
end DL

set_option Elab.async false
set_option linter.all false
set_option maxRecDepth 100000
set_option autoImplicit false
namespace DL
open PySem PySem.Spec PyProof.Rows L2
variable [Tabs]

/-! ### what is walked -/
def ItOk (K : PySem.W.Frag) (J : It) (F : Hp) (items : List D) : Prop := ∀ F2 H2, Same F F2 → Same F2 H2 → ∀ i,
  (∀ d, items[i]? = some d → J.go i H2 ∧ ∀ x H3, J.yld i H2 x H3 → ∃ F3, Same F2 F3 ∧ Same F3 H3 ∧ Same H2 H3 ∧ (∀ b, F3 b ≠ none → F2 b ≠ none ∨ H2 b = none) ∧ Dp K F3 x d) ∧ (i = items.length → J.stop i H2)
abbrev Di := DS → R (List D)
def WI (G : Ct) : DS → Hp → Hp → It → List D → Prop := fun _ F _ J ds => ItOk G.K J F ds
def upI (C : Cf) (ti : Di) : TI := fun σ H Q => ∃ G δ F, G.C = C ∧ St1 G δ σ F H ∧ finA G (WI G) (ti δ) σ F Q
section
variable {X : Cx} {C : Cf} {e a b c l tg : Expr} {ta tb tc : De} {pos : Pos}
theorem pi_weak {t t' : TI} (h : PI X tg e t) (w : ∀ σ H Q, t' σ H Q → t σ H Q) : PI X tg e t' := ⟨fun pins s σ H Q I q => h.run pins s σ H Q I (w σ H Q q)⟩
theorem pi_or {t t' : TI} (h : PI X tg e t) (h' : PI X tg e t') : PI X tg e (fun σ H Q => t σ H Q ∨ t' σ H Q) := ⟨fun pins s σ H Q I q => q.elim (fun q => h.run pins s σ H Q I q) fun q => h'.run pins s σ H Q I q⟩
theorem it_list {K : PySem.W.Frag} {F : Hp} {p : Addr} {vs : List V} {ds : List D} (h : F p = some (.lst vs)) (w : DpAll K F vs ds) : ItOk K (Itl K p) F ds := fun F2 H2 f2 h2 i => by
  have hq : SqL K H2 p vs := SqL.of ((f2.trans h2) _ _ h)
  refine ⟨fun d hd => ?_, fun hi => ⟨vs, hq, by rw [dpa_len w]; exact Nat.le_of_eq hi.symm⟩⟩
  obtain ⟨v, e1, e2⟩ := dpa_get w hd
  refine ⟨⟨vs, v, hq, e1⟩, fun x H3 y => ?_⟩
  obtain ⟨rfl, y⟩ := y
  have ex : v = x := Option.some.inj (e1.symm.trans (y vs hq))
  subst ex
  exact ⟨F2, Same.refl F2, h2, Same.refl _, fun b z => .inl z, dp_mono f2 _ _ e2⟩
theorem it_scr {K : PySem.W.Frag} {F : Hp} {p : Addr} {ns : List Int} (h : SqL K F p (ns.map V.int)) : ItOk K (Itl K p) F (ns.map PyData.int) := fun F2 H2 f2 h2 i => by
  have hq : SqL K H2 p (ns.map V.int) := same_l (f2.trans h2) h
  refine ⟨fun d hd => ?_, fun hi => ⟨_, hq, by rw [hi]; simp⟩⟩
  obtain ⟨v, e1, e2⟩ := dpa_get (dpa_ints (K := K) (F := F) ns) hd
  refine ⟨⟨_, v, hq, e1⟩, fun x H3 y => ?_⟩
  obtain ⟨rfl, y⟩ := y
  have ex : v = x := Option.some.inj (e1.symm.trans (y _ hq))
  subst ex
  exact ⟨F2, Same.refl F2, h2, Same.refl _, fun b z => .inl z, dp_mono f2 _ _ e2⟩
theorem it_tup {K : PySem.W.Frag} {F : Hp} {p : Addr} {vs : List V} {ds : List D} (h : F p = some (.tup vs)) (w : DpAll K F vs ds) : ItOk K (Itt K p) F ds := fun F2 H2 f2 h2 i => by
  have hq : SqT K H2 p vs := SqT.of ((f2.trans h2) _ _ h)
  refine ⟨fun d hd => ?_, fun hi => ⟨vs, hq, by rw [dpa_len w]; exact Nat.le_of_eq hi.symm⟩⟩
  obtain ⟨v, e1, e2⟩ := dpa_get w hd
  refine ⟨⟨vs, v, hq, e1⟩, fun x H3 y => ?_⟩
  obtain ⟨rfl, y⟩ := y
  have ex : v = x := Option.some.inj (e1.symm.trans (y vs hq))
  subst ex
  exact ⟨F2, Same.refl F2, h2, Same.refl _, fun b z => .inl z, dp_mono f2 _ _ e2⟩
def chars (z : Str) : List D := z.cps.toList.map fun c => .str ⟨#[c]⟩
theorem it_str {K : PySem.W.Frag} {F : Hp} {z : Str} : ItOk K (Its z) F (chars z) := fun F2 H2 f2 h2 i => by
  refine ⟨fun d hd => ?_, fun hi => by
    unfold chars at hi
    show z.cps.size ≤ i
    rw [hi]
    simp⟩
  unfold chars at hd
  rw [List.getElem?_map] at hd
  cases e : z.cps.toList[i]? with
  | none => rw [e] at hd; cases hd
  | some c =>
    rw [e] at hd
    cases hd
    have ec : z.cps[i]? = some c := by simpa using e
    refine ⟨(Array.getElem?_eq_some_iff.mp ec).1, fun x H3 y => ?_⟩
    obtain ⟨rfl, c', e1, rfl⟩ := y
    rw [ec] at e1
    cases e1
    exact ⟨F2, Same.refl F2, h2, Same.refl _, fun b z => .inl z, .str _⟩
theorem it_range {K : PySem.W.Frag} {F : Hp} {lo : Int} {n : Nat} : ItOk K (Itr lo n) F ((List.range n).map fun (i : Nat) => .int (lo + i)) := fun F2 H2 f2 h2 i => by
  refine ⟨fun d hd => ?_, fun hi => by
    show n ≤ i
    rw [hi]
    simp⟩
  rw [List.getElem?_map] at hd
  have hi : i < n := by
    have := (List.getElem?_eq_some_iff.mp (show (List.map (fun (i : Nat) => PyData.int (lo + i)) (List.range n))[i]? = some d by rw [List.getElem?_map]; exact hd)).1
    simpa using this
  rw [List.getElem?_range hi] at hd
  cases hd
  refine ⟨hi, fun x H3 y => ?_⟩
  obtain ⟨rfl, rfl⟩ := y
  exact ⟨F2, Same.refl F2, h2, Same.refl _, fun b z => .inl z, .int _⟩
def itemsOf (d : D) (δ : DS) : R (List D) := match d with
  | .list ds => .ok ds δ
  | .tuple ds => .ok ds δ
  | .str z => .ok (chars z) δ
  | .dict [(.none, .list ds)] => .ok ds δ
  | _ => .bad
def dIter (a : De) : Di := fun δ => (a δ).bind fun x δ1 => (kp x δ1).bind fun d δ2 => itemsOf d δ2
/-- a list, a tuple, a text -/
theorem pdi_seq (ha : PE X l (up C ta)) (hK : C.K = X.K := by rfl) : PI X tg l (upI C (dIter ta)) := by
  refine pi_weak (pi_or (pi_list ha) (pi_or (pi_tup ha) (pi_str ha))) fun σ H R ⟨G, δ, F, hC, k, h⟩ => ?_
  subst hC
  unfold dIter at h
  cases e1 : ta δ with
  | bad => rw [e1] at h; exact h.elim
  | ex cc s =>
    rw [e1] at h
    refine .inl ⟨G, δ, F, rfl, k, ?_⟩
    rw [e1]
    exact h
  | ok x δ1 =>
    rw [e1] at h
    have h : finA G (WI G) ((kp x δ1).bind fun d δ2 => itemsOf d δ2) σ F R := h
    have go : ∀ (Q : VK), (∀ v d δ2 F2 H2, St1 G δ2 σ F2 H2 → Dp G.K F2 v d → kp x δ1 = .ok d δ2 → finA G (WI G) (itemsOf d δ2) σ F2 R → Q v H2) → up G.C ta σ H Q := fun Q hq => by
      refine ⟨G, δ, F, rfl, k, ?_⟩
      rw [e1]
      intro v F1 H1 k1 g1 w1
      cases e : kp x δ1 with
      | bad => rw [e] at h; exact h.elim
      | ex cc s =>
        exfalso
        cases x with
        | fz d => cases e
        | own cc => cases cc <;> cases e
        | loc i =>
          unfold kp at e
          simp only at e
          split at e <;> cases e
      | ok d δ2 =>
        rw [e] at h
        obtain ⟨F2, k2, g2, w2⟩ := k1.keepV w1 e
        exact hq v d δ2 F2 H1 k2 w2 e (finA_mono h (g1.trans g2))
    cases e : kp x δ1 with
    | bad => rw [e] at h; exact h.elim
    | ex cc s =>
        exfalso
        cases x with
        | fz d => cases e
        | own cc => cases cc <;> cases e
        | loc i =>
          unfold kp at e
          simp only at e
          split at e <;> cases e
    | ok d δ2 =>
      rw [e] at h
      cases d with
      | list ds =>
        refine .inl (go _ fun v d' δ2' F2 H2 k2 w2 e' h2 => ?_)
        rw [e] at e'
        cases e'
        cases w2 with
        | @lst p vs _ a b => exact ⟨p, rfl, ⟨vs, SqL.of (k2.fh _ _ a)⟩, h2 _ F2 H2 k2 (Same.refl F2) (by rw [← hK]; exact it_list a b)⟩
      | tuple ds =>
        refine .inr (.inl (go _ fun v d' δ2' F2 H2 k2 w2 e' h2 => ?_))
        rw [e] at e'
        cases e'
        cases w2 with
        | @tup p vs _ a b => exact ⟨p, rfl, ⟨vs, SqT.of (k2.fh _ _ a)⟩, h2 _ F2 H2 k2 (Same.refl F2) (by rw [← hK]; exact it_tup a b)⟩
      | str z =>
        refine .inr (.inr (go _ fun v d' δ2' F2 H2 k2 w2 e' h2 => ?_))
        rw [e] at e'
        cases e'
        cases w2
        exact ⟨z, rfl, h2 _ F2 H2 k2 (Same.refl F2) it_str⟩
      | dict kvs =>
        refine .inl (go _ fun v d' δ2' F2 H2 k2 w2 e' h2 => ?_)
        rw [e] at e'
        cases e'
        cases w2 with
        | dct a b => exact h2.elim
        | exc x a => exact h2.elim
        | opq a => exact h2.elim
        | @scr p ns a => exact ⟨p, rfl, ⟨_, by rw [← hK]; exact same_l k2.fh a⟩, h2 _ F2 H2 k2 (Same.refl F2) (by rw [← hK]; exact it_scr a)⟩
      | _ => exact h.elim
def dRange1 (l : Dl) : Di := fun δ => (l δ).bind fun ds δ1 => match ds with
  | [.int n] => okIf (decide (-1000000 ≤ n) && decide (n ≤ 1000000)) (.ok ((List.range n.toNat).map fun (i : Nat) => PyData.int i) δ1)
  | _ => .bad
def dRange2 (l : Dl) : Di := fun δ => (l δ).bind fun ds δ1 => match ds with
  | [.int lo, .int n] => okIf (decide (-1000000 ≤ n) && decide (n ≤ 1000000) && decide (-1000000 ≤ lo) && decide (lo ≤ 1000000)) (.ok ((List.range (n - lo).toNat).map fun (i : Nat) => PyData.int (lo + i)) δ1)
  | _ => .bad
theorem pdi_range1 {tl : Dl} {p : Pos} (hm : X.mg "range" = none) (ha : PA X [a] (upL C tl)) (hg : Gl X "range" := by rfl) (hs : starEach [a] X.env = [(false, eval a X.env)] := by rfl) : PI X tg (.Call (.Name "range" p) [a] [] pos) (upI C (dRange1 tl)) :=
  pi_weak (pi_range1 hg hm ha hs) fun σ H R ⟨G, δ, F, hC, k, h⟩ => by
    subst hC
    refine ⟨G, δ, F, rfl, k, finA_bind h fun ds δ1 vs F1 H1 k1 g1 w1 h1 => ?_⟩
    have w1 : DpAll G.K F1 vs ds := w1
    cases w1 with
    | nil => exact h1.elim
    | cons w ws =>
      cases ws with
      | cons _ _ => cases w <;> exact h1.elim
      | nil =>
        cases w with
        | int n =>
          obtain ⟨z, h2⟩ := okIf_fin h1
          rw [Bool.and_eq_true] at z
          have z1 := of_decide_eq_true z.1
          have z2 := of_decide_eq_true z.2
          refine ⟨n, rfl, by omega, by omega, h2 _ F1 H1 k1 (Same.refl F1) ?_⟩
          have := it_range (K := G.K) (F := F1) (lo := 0) (n := n.toNat)
          have q : ItOk G.K (Itr 0 n.toNat) F1 ((List.range n.toNat).map fun (i : Nat) => PyData.int i) := by simpa using this
          exact q
        | _ => exact h1.elim
theorem pdi_range2 {tl : Dl} {p : Pos} (hm : X.mg "range" = none) (ha : PA X [a, b] (upL C tl)) (hg : Gl X "range" := by rfl) (hs : starEach [a, b] X.env = [(false, eval a X.env), (false, eval b X.env)] := by rfl) (hs2 : starEach [b] X.env = [(false, eval b X.env)] := by rfl) : PI X tg (.Call (.Name "range" p) [a, b] [] pos) (upI C (dRange2 tl)) :=
  pi_weak (pi_range2 hg hm ha hs hs2) fun σ H R ⟨G, δ, F, hC, k, h⟩ => by
    subst hC
    refine ⟨G, δ, F, rfl, k, finA_bind h fun ds δ1 vs F1 H1 k1 g1 w1 h1 => ?_⟩
    have w1 : DpAll G.K F1 vs ds := w1
    cases w1 with
    | nil => exact h1.elim
    | cons w ws =>
      cases ws with
      | nil => cases w <;> exact h1.elim
      | cons w' ws =>
        cases ws with
        | cons _ _ => cases w <;> cases w' <;> exact h1.elim
        | nil =>
          cases w with
          | int lo =>
            cases w' with
            | int n =>
              obtain ⟨z, h2⟩ := okIf_fin h1
              rw [Bool.and_eq_true, Bool.and_eq_true, Bool.and_eq_true] at z
              have z1 := of_decide_eq_true z.1.1.1
              have z2 := of_decide_eq_true z.1.1.2
              have z3 := of_decide_eq_true z.1.2
              have z4 := of_decide_eq_true z.2
              exact ⟨lo, n, rfl, ⟨by omega, by omega, by omega, by omega⟩, h2 _ F1 H1 k1 (Same.refl F1) it_range⟩
            | _ => exact h1.elim
          | _ => cases w' <;> exact h1.elim

/-! ### for, while -/
def stepB (g : Dg) (body : Ds) (d : D) (δ : DS) : R Out := match g d δ with
  | .ok .nx δ1 => body δ1
  | _ => .bad
def forL (f : D → DS → R Out) : List D → DS → R Out
  | [], δ => .ok .nx δ
  | d :: ds, δ => match f d δ with
    | .ok .nx δ1 => forL f ds δ1
    | .ok .ct δ1 => forL f ds δ1
    | .ok .bk δ1 => .ok .nx δ1
    | r => r
def dFor (ti : Di) (g : Dg) (body : Ds) : Ds := fun δ => (ti δ).bind fun ds δ1 => forL (stepB g body) ds δ1
theorem grow_it {G : Ct} {δ : DS} {σ : L2.St} {F2 H2 F3 H3 : Hp} (k : St1 G δ σ F2 H2) (f1 : Same F2 F3) (f2 : Same F3 H3) (f3 : Same H2 H3) (f4 : ∀ b, F3 b ≠ none → F2 b ≠ none ∨ H2 b = none) : St1 G δ σ F3 H3 := k.grow f1 f2 f3 fun b z => by
  rcases f4 b z with q | q
  · exact .inl q
  · exact .inr ⟨k.new0 q, k.free q⟩
theorem pds_for {ti : Di} {g : Dg} {ts : List Nat} {body : List Stmt} {sb : Ds} (hp : PassesOwn (model X.prog X.w) X.A X.env X.xe) (hi : PI X tg e (upI C ti)) (hg : PG X tg (upG C ts g)) (hb : PSs X body (ups C sb)) (hc : X.calm = true := by rfl)
    (hs : ∀ x, foldedSetIterable e X.env x = pure x := by intro _; rfl) : PS X (.For tg e body [] pos) (ups C (dFor ti g sb)) := ps_weak (ps_for hp hc hi hg hb hs) fun D σ H ⟨G, δ, F, hC, k, h⟩ => by
  subst hC
  refine ⟨G, δ, F, rfl, k, finS_bind h fun ds δ1 J F1 H1 k1 g1 w1 h1 => ?_⟩
  have w1 : ItOk G.K J F1 ds := w1
  refine ⟨fun i m σ H => m = ds.length - i ∧ i ≤ ds.length ∧ ∃ δ F, St1 G δ σ F H ∧ Same F1 F ∧ finS G (forL (stepB g sb) (ds.drop i) δ) F D, ⟨ds.length, by simp, Nat.zero_le _, δ1, F1, k1, Same.refl F1, h1⟩, ?_⟩
  rintro i m σ2 H2 ⟨rfl, hi, δ2, F2, k2, g2, h2⟩
  obtain ⟨wgo, wst⟩ := w1 F2 H2 g2 k2.fh i
  by_cases hlt : i < ds.length
  · right
    obtain ⟨go, yl⟩ := wgo ds[i] (List.getElem?_eq_getElem hlt)
    rw [List.drop_eq_getElem_cons hlt] at h2
    refine ⟨go, fun σ' H' => ∃ δ F, St1 G δ σ' F H' ∧ Same F1 F ∧ finS G (forL (stepB g sb) (ds.drop (i + 1)) δ) F D, fun σ' H' ⟨δ', F', a, b, c⟩ => ⟨ds.length - (i + 1), by omega, rfl, hlt, δ', F', a, b, c⟩, fun x H3 y => ?_⟩
    obtain ⟨F3, f1, f2, f3, f4, w3⟩ := yl x H3 y
    have k3 := grow_it k2 f1 f2 f3 f4
    refine ⟨G, δ2, F3, ds[i], rfl, k3, w3, ?_⟩
    have h3 := finS_mono h2 f1
    unfold forL stepB at h3
    cases e1 : g ds[i] δ2 with
    | ok o δ3 =>
      rw [e1] at h3
      cases o with
      | nx =>
        intro σ' F' H' k' f' _
        refine ⟨G, δ3, F', rfl, k', ?_⟩
        have h4 := finS_mono h3 f'
        simp only at h4
        have gg : Same F1 F' := (g2.trans f1).trans f'
        cases e2 : sb δ3 with
        | ok o δ4 =>
          rw [e2] at h4
          cases o with
          | nx => exact fun σ4 F4 H4 k4 f4 => ⟨δ4, F4, k4, gg.trans f4, finS_mono h4 f4⟩
          | ct => exact fun σ4 F4 H4 k4 f4 => ⟨δ4, F4, k4, gg.trans f4, finS_mono h4 f4⟩
          | bk => exact h4
          | rt v => exact h4
        | ex c δ4 => rw [e2] at h4; exact h4
        | bad => rw [e2] at h4; exact h4
      | bk => exact h3.elim
      | ct => exact h3.elim
      | rt v => exact h3.elim
    | ex c δ3 => rw [e1] at h3; exact h3.elim
    | bad => rw [e1] at h3; exact h3.elim
  · left
    have e : i = ds.length := by omega
    subst e
    refine ⟨wst rfl, ?_⟩
    rw [List.drop_length] at h2
    exact h2 σ2 F2 H2 k2 (Same.refl F2)
def whileL (t : Dt) (body : Ds) : Nat → DS → R Out
  | 0, _ => .bad
  | n + 1, δ => (t δ).bind fun b δ1 => match b with
    | false => .ok .nx δ1
    | true => match body δ1 with
      | .ok .nx δ2 => whileL t body n δ2
      | .ok .ct δ2 => whileL t body n δ2
      | .ok .bk δ2 => .ok .nx δ2
      | r => r
def dWhile (n : Nat) (t : Dt) (body : Ds) : Ds := whileL t body n
theorem pds_while {n : Nat} {t : Dt} {body : List Stmt} {sb : Ds} (hp : PassesOwn (model X.prog X.w) X.A X.env X.xe) (ht : PT X e (upT C t)) (hb : PSs X body (ups C sb)) : PS X (.While e body [] pos) (ups C (dWhile n t sb)) :=
  ps_weak (ps_while hp ht hb) fun D σ H ⟨G, δ, F, hC, k, h⟩ => by
    subst hC
    refine ⟨fun m σ H => ∃ δ F, St1 G δ σ F H ∧ finS G (whileL t sb m δ) F D, ⟨n, δ, F, k, h⟩, ?_⟩
    rintro m σ2 H2 ⟨δ2, F2, k2, h2⟩
    cases m with
    | zero => exact h2.elim
    | succ m =>
      refine ⟨G, δ2, F2, rfl, k2, finS_bind h2 fun b δ3 v F3 H3 k3 g3 w3 h3 => ?_⟩
      have w3 : v = b := w3
      subst w3
      cases v with
      | false => exact iteF (h3 σ2 F3 H3 k3 (Same.refl F3))
      | true =>
        refine iteT ⟨fun σ' H' => ∃ δ F, St1 G δ σ' F H' ∧ finS G (whileL t sb m δ) F D, fun σ' H' z => ⟨m, Nat.lt_succ_self m, z⟩, G, δ3, F3, rfl, k3, ?_⟩
        simp only at h3
        cases e2 : sb δ3 with
        | ok o δ4 =>
          rw [e2] at h3
          cases o with
          | nx => exact fun σ4 F4 H4 k4 f4 => ⟨δ4, F4, k4, finS_mono h3 f4⟩
          | ct => exact fun σ4 F4 H4 k4 f4 => ⟨δ4, F4, k4, finS_mono h3 f4⟩
          | bk => exact h3
          | rt v => exact h3
        | ex c δ4 => rw [e2] at h3; exact h3
        | bad => rw [e2] at h3; exact h3
end
end DL

set_option Elab.async false
set_option linter.all false
set_option maxRecDepth 100000
set_option autoImplicit false
namespace DL
open PySem PySem.Spec PyProof.Rows L2
variable [Tabs]

/-! ### lists of one's own are changed -/
section
variable {X : Cx} {C : Cf} {e a b c : Expr} {ta tb tc : De} {pos : Pos}
def lstAt (i : Nat) (δ : DS) : Option (Sl × List D) := match δ[i]? with
  | some (.own (.lst ds)) => some (.own (.lst ds), ds)
  | some (.arg (.lst ds)) => some (.arg (.lst ds), ds)
  | _ => none
theorem lstAt_some {i : Nat} {δ : DS} {s : Sl} {ds : List D} (h : lstAt i δ = some (s, ds)) : δ[i]? = some s ∧ s.co = some (.lst ds) := by
  unfold lstAt at h
  cases e : δ[i]? with
  | none => rw [e] at h; cases h
  | some t =>
    rw [e] at h
    cases t with
    | own c => cases c with
      | lst l => cases h; exact ⟨rfl, rfl⟩
      | dct _ => cases h
    | arg c => cases c with
      | lst l => cases h; exact ⟨rfl, rfl⟩
      | dct _ => cases h
    | _ => cases h
/-- the list at slot i becomes f of it -/
def mutL (i : Nat) (f : List D → Option (List D)) (δ : DS) : R Out := match lstAt i δ with
  | some (s, ds) => match f ds with
    | some l => .ok .nx (δ.set i (s.with (.lst l)))
    | none => .bad
  | none => .bad
theorem mutL_fin {G : Ct} {i : Nat} {f : List D → Option (List D)} {δ : DS} {F : Hp} {Dd : Ends} (h : finS G (mutL i f δ) F Dd) : ∃ s ds l, δ[i]? = some s ∧ s.co = some (.lst ds) ∧ f ds = some l ∧ finS G (.ok .nx (δ.set i (s.with (.lst l)))) F Dd := by
  unfold mutL at h
  cases e : lstAt i δ with
  | none => rw [e] at h; exact h.elim
  | some q =>
    obtain ⟨s, ds⟩ := q
    rw [e] at h
    simp only at h
    obtain ⟨e1, e2⟩ := lstAt_some e
    cases e3 : f ds with
    | none => rw [e3] at h; exact h.elim
    | some l => rw [e3] at h; exact ⟨s, ds, l, e1, e2, e3, h⟩
def isLst (i : Nat) (δ : DS) : Bool := (lstAt i δ).isSome
theorem isLst_held {G : Ct} {δ : DS} {σ : L2.St} {F H : Hp} {i : Nat} (k : St1 G δ σ F H) (h : isLst i δ = true) : ∃ p vs, σ[i]? = some (some (.ref p)) ∧ H p = some (.lst vs) := by
  unfold isLst at h
  cases e : lstAt i δ with
  | none => rw [e] at h; cases h
  | some q =>
    obtain ⟨s, ds⟩ := q
    obtain ⟨e1, e2⟩ := lstAt_some e
    obtain ⟨p, o, a1, a2, a3, vs, rfl, a4⟩ := k.held e1 e2
    exact ⟨p, vs, a1, a2⟩
def fApp (d : D) (ds : List D) : Option (List D) := okO (small ds.length) (some (ds ++ [d]))
def dApp (i : Nat) (a : De) : Ds := fun δ => okIf (isLst i δ) ((a δ).bind fun x δ1 => (kp x δ1).bind fun d δ2 => mutL i (fApp d) δ2)
theorem okIf_finS' {G : Ct} {t : Bool} {r : R Out} {F : Hp} {Dd : Ends} (h : finS G (okIf t r) F Dd) : t = true ∧ finS G r F Dd := okIf_finS h
theorem pds_app (i : Nat) {x : Str} {p1 p2 p3 : Pos} (ha : PE X e (up C ta)) (hN : X.N[i]? = some x := by rfl) (hv : Vis X.env.scope x := by first | exact Or.inl rfl | exact Or.inr (Or.inl rfl) | exact Or.inr (Or.inr rfl)) (hd : (x == ("__debug__" : Str)) = false := by decide)
    (hcd : (x == ("__classdict__" : Str)) = false := by decide) (hw : swapsWith (.Call (.Attribute (.Name x p1) "append" p2) [e] [] p3) none pos.line X.env = pure false := by rfl)
    (hcall : ∀ (to te : TE), PE X (.Name x p1) to → PE X e te → PE X (.Call (.Attribute (.Name x p1) "append" p2) [e] [] p3) (tBM X.K "list" rAppend to (tCons te tNil)) := by exact fun _ _ h1 h2 => pe_bm PySem.F.plainAttrs_list PySem.F.slot_list_append PySem.F.type_list_append mt_append h1 (pa_cons h2 pa_nil)) :
    PS X (.Expr (.Call (.Attribute (.Name x p1) "append" p2) [e] [] p3) pos) (ups C (dApp i ta)) := by
  refine ps_weak (ps_expr (hcall _ _ (pe_var hN hv hd hcd) ha) hw) fun D σ H ⟨G, δ, F, hC, k, h⟩ => ?_
  subst hC
  obtain ⟨z, h⟩ := okIf_finS h
  obtain ⟨p, vs, e1, e2⟩ := isLst_held k z
  refine ⟨.ref p, e1, .inl ⟨rfl, vs, SqL.of e2⟩, G, δ, F, rfl, k, finS_bind h fun x δ1 v F1 H1 k1 g1 w1 h1 => ?_⟩
  obtain ⟨d, δ2, F2, k2, g2, w2, h2⟩ := kp_bindS k1 h1 w1
  obtain ⟨s, ds, l, q1, q2, q3, h3⟩ := mutL_fin h2
  obtain ⟨p', o, a1, a2, a3, vs', rfl, a4⟩ := k2.held q1 q2
  rw [e1] at a1
  cases a1
  obtain ⟨z1, z2⟩ := okO_some q3
  cases z2
  exact ⟨p, vs', v, rfl, rfl, a2, by rw [dpa_len a4]; exact small_lt z1, h3 σ F2 _ (k2.change q1 q2 e1 ⟨_, rfl, dpa_app a4 (.cons w2 .nil)⟩) (Same.refl F2)⟩
/-- x[i] = e of an own list -/
def fSet (j : Int) (d : D) (ds : List D) : Option (List D) := (ixN ds.length j).map fun m => ds.set m d
def asInt (x : Vl) (δ : DS) : R Int := match x with
  | .fz (.int i) => .ok i δ
  | _ => .bad
def dSetI (i : Nat) (b a : De) : Ds := fun δ => (a δ).bind fun x δ1 => (kp x δ1).bind fun d δ2 => okIf (isLst i δ2) ((b δ2).bind fun y δ3 => (asInt y δ3).bind fun j δ4 => mutL i (fSet j d) δ4)
theorem pds_setI (i : Nat) {x : Str} {p1 p2 : Pos} (ha : PE X e (up C ta)) (hb : PE X b (up C tb)) (hN : X.N[i]? = some x := by rfl) (hv : Vis X.env.scope x := by first | exact Or.inl rfl | exact Or.inr (Or.inl rfl) | exact Or.inr (Or.inr rfl)) (hd : (x == ("__debug__" : Str)) = false := by decide)
    (hcd : (x == ("__classdict__" : Str)) = false := by decide)
    (hs : swapsWithSole [.Subscript (.Name x p1) b p2] e pos.line X.env = pure false := by rfl) (hw : swappedStores [.Subscript (.Name x p1) b p2] e X.env = pure none := by rfl)
    (h1 : (assignEach [.Subscript (.Name x p1) b p2] X.env).map (·.2) = [assign (.Subscript (.Name x p1) b p2) X.env] := by rfl)
    (hpg : ∀ (to ti : TE), PE X (.Name x p1) to → PE X b ti → PG X (.Subscript (.Name x p1) b p2) (gSub to ti rSetL) := by exact fun _ _ h1 h2 => pg_sub h1 h2 set_list) :
    PS X (.Assign [.Subscript (.Name x p1) b p2] e pos) (ups C (dSetI i tb ta)) := by
  refine ps_weak (ps_asg ha (hpg _ _ (pe_var hN hv hd hcd) hb) hs hw h1) fun D σ H ⟨G, δ, F, hC, k, h⟩ => ?_
  subst hC
  refine ⟨G, δ, F, rfl, k, finS_bind h fun x δ1 v F1 H1 k1 g1 w1 h1 => ?_⟩
  obtain ⟨d, δ2, F2, k2, g2, w2, h2⟩ := kp_bindS k1 h1 w1
  obtain ⟨z, h2⟩ := okIf_finS h2
  obtain ⟨p, vs, e1, e2⟩ := isLst_held k2 z
  refine ⟨.ref p, e1, G, δ2, F2, rfl, k2, finS_bind h2 fun y δ3 u F3 H3 k3 g3 w3 h3 => ?_⟩
  cases y with
  | fz d' => cases d' with
    | int j =>
      cases w3
      have h3 : finS G (mutL i (fSet j d) δ3) F3 D := h3
      obtain ⟨s, ds, l, q1, q2, q3, h4⟩ := mutL_fin h3
      obtain ⟨p', o, a1, a2, a3, vs', rfl, a4⟩ := k3.held q1 q2
      rw [e1] at a1
      cases a1
      unfold fSet at q3
      cases eq : ixN ds.length j with
      | none => rw [eq] at q3; cases q3
      | some m =>
        rw [eq] at q3
        cases q3
        exact ⟨p, vs', j, m, rfl, rfl, a2, by rw [dpa_len a4]; exact eq, h4 σ F3 _ (k3.change q1 q2 e1 ⟨_, rfl, dpa_set m a4 (dp_mono g3 _ _ w2)⟩) (Same.refl F3)⟩
    | _ => exact h3.elim
  | _ => exact h3.elim
/-- xs.extend(e): the list handed may be read only -/
def rExtendR : V → List V → Hp → VK → Prop := fun x vs H Q => ∃ l b xs zs, x = .ref l ∧ vs = [.ref b] ∧ H l = some (.lst xs) ∧ Rd H b (.lst zs) ∧ xs.length + zs.length ≤ sizeLine ∧ Q .non (upd H l (.lst (xs ++ zs)))
end

/-! ### the part of a block (a comprehension): what was ours before is handed to it -/
def toArg : Sl → Sl
  | .own c => .arg c
  | s => s
def back1 : Sl → Sl → Sl
  | .own _, .arg c => .own c
  | .arg _, .arg c => .arg c
  | s, _ => s
def back : DS → DS → DS
  | [], _ => []
  | s :: δ, t :: δ' => back1 s t :: back δ δ'
  | s :: δ, [] => s :: back δ []
theorem back_get : ∀ (δ δ' : DS) (i : Nat) (s t : Sl), δ[i]? = some s → δ'[i]? = some t → (back δ δ')[i]? = some (back1 s t)
  | [], _, _, _, _, h, _ => by simp at h
  | _ :: _, [], _, _, _, _, h => by simp at h
  | s :: δ, t :: δ', 0, _, _, h, h' => by simp at h h'; subst h h'; rfl
  | s :: δ, t :: δ', i + 1, _, _, h, h' => by
    show (back δ δ')[i]? = _
    exact back_get δ δ' i _ _ (by simpa using h) (by simpa using h')
theorem back_len : ∀ (δ δ' : DS), (back δ δ').length = δ.length
  | [], _ => rfl
  | s :: δ, t :: δ' => by show (back δ δ').length + 1 = _; rw [back_len]; rfl
  | s :: δ, [] => by show (back δ []).length + 1 = _; rw [back_len]; rfl
def wipeD (δ : DS) : List Nat → DS
  | [] => δ
  | v :: vs => (wipeD δ vs).set v .no
theorem wipeD_len (δ : DS) : ∀ vs : List Nat, (wipeD δ vs).length = δ.length
  | [] => rfl
  | v :: vs => by unfold wipeD; rw [List.length_set, wipeD_len δ vs]
theorem wipeD_out {δ : DS} {i : Nat} : ∀ {vs : List Nat}, i ∉ vs → (wipeD δ vs)[i]? = δ[i]?
  | [], _ => rfl
  | v :: vs, h => by
    rw [List.mem_cons, not_or] at h
    unfold wipeD
    rw [List.getElem?_set_ne (Ne.symm h.1)]
    exact wipeD_out h.2
theorem wipeD_in {δ : DS} {i : Nat} (hl : i < δ.length) : ∀ {vs : List Nat}, i ∈ vs → (wipeD δ vs)[i]? = some .no
  | [], h => by simp at h
  | v :: vs, h => by
    unfold wipeD
    by_cases hv : v = i
    · subst hv
      rw [List.getElem?_set_self (by rw [wipeD_len]; exact hl)]
    · rw [List.getElem?_set_ne hv]
      rcases List.mem_cons.mp h with z | z
      · exact absurd z.symm hv
      · exact wipeD_in hl z
theorem wipe_eq {a b : L2.St} {vs : List Nat} (h : ∀ j, j ∉ vs → a[j]? = b[j]?) (hl : a.length = b.length) : wipe a vs = wipe b vs := by
  have gin : ∀ (σ : L2.St) (i : Nat), i < σ.length → ∀ (vs : List Nat), i ∈ vs → (wipe σ vs)[i]? = some none := by
    intro σ i hi vs
    induction vs with
    | nil => intro h; simp at h
    | cons v vs ih =>
      intro h
      unfold wipe
      by_cases hv : v = i
      · subst hv
        rw [List.getElem?_set_self (by rw [wipe_length]; exact hi)]
      · rw [List.getElem?_set_ne hv]
        rcases List.mem_cons.mp h with z | z
        · exact absurd z.symm hv
        · exact ih z
  apply List.ext_getElem?
  intro i
  by_cases hi : i ∈ vs
  · by_cases hz : i < a.length
    · rw [gin a i hz vs hi, gin b i (by rw [← hl]; exact hz) vs hi]
    · rw [List.getElem?_eq_none (by rw [wipe_length]; omega), List.getElem?_eq_none (by rw [wipe_length]; omega)]
  · rw [wipe_out hi, wipe_out hi, h i hi]
def freeAt (vs : List Nat) (δ : DS) : Bool := vs.all fun i => match δ[i]? with
  | some s => !s.held
  | none => true
def Ct.blk (G : Ct) (C' : Cf) (δ : DS) (σ : L2.St) (F H : Hp) : Ct := ⟨C', F, H, fun i => match δ[i]?, σ[i]? with
  | some s, some (some (.ref p)) => if s.held = true then some p else none
  | _, _ => none⟩
section
variable {G : Ct} {C' : Cf} {δ δ2 : DS} {σ σ2 : L2.St} {F H F2 H2 : Hp} {vs : List Nat}
theorem blk_M {i : Nat} {p : Addr} (h : (G.blk C' δ σ F H).M i = some p) : ∃ s, δ[i]? = some s ∧ s.held = true ∧ σ[i]? = some (some (.ref p)) := by
  have h : (match δ[i]?, σ[i]? with
  | some s, some (some (.ref p)) => if s.held = true then some p else none
  | _, _ => none) = some p := h
  cases e : δ[i]? with
  | none => rw [e] at h; cases h
  | some s =>
    rw [e] at h
    cases e2 : σ[i]? with
    | none => rw [e2] at h; cases h
    | some o =>
      rw [e2] at h
      cases o with
      | none => cases h
      | some v =>
        cases v with
        | ref q =>
          simp only at h
          by_cases hh : s.held = true
          · rw [if_pos hh] at h
            cases h
            exact ⟨s, rfl, hh, rfl⟩
          · rw [if_neg hh] at h
            cases h
        | _ => cases h
theorem blk_M_of {i : Nat} {p : Addr} {s : Sl} (h1 : δ[i]? = some s) (h2 : s.held = true) (h3 : σ[i]? = some (some (.ref p))) : (G.blk C' δ σ F H).M i = some p := by
  show (match δ[i]?, σ[i]? with
  | some s, some (some (.ref p)) => if s.held = true then some p else none
  | _, _ => none) = some p
  rw [h1, h3]
  simp only
  rw [if_pos h2]
theorem blk_in (k : St1 G δ σ F H) (hK : C'.K = G.K) (hv : freeAt vs δ = true) : St1 (G.blk C' δ σ F H) (wipeD (δ.map toArg) vs) (wipe σ vs) F H where
  len := by rw [wipeD_len, wipe_length, List.length_map]; exact k.len
  fh := k.fh
  f0 := Same.refl F
  h0 := fun b o _ e => e
  fn := fun b z => .inl z
  sl := fun i s e => by
    have hl : i < δ.length := by
      have := (List.getElem?_eq_some_iff.mp e).1
      rw [wipeD_len, List.length_map] at this
      exact this
    by_cases hi : i ∈ vs
    · rw [wipeD_in (by rw [List.length_map]; exact hl) hi] at e
      cases e
      trivial
    · rw [wipeD_out hi, List.getElem?_map] at e
      rw [wipe_out hi]
      cases e1 : δ[i]? with
      | none => rw [e1] at e; cases e
      | some t =>
        rw [e1] at e
        have et : toArg t = s := Option.some.inj e
        subst et
        have z := k.sl i t e1
        cases t with
        | no => trivial
        | fz d =>
          obtain ⟨v, a, b⟩ := z
          exact ⟨v, a, by rw [show (G.blk C' δ σ F H).K = G.K from hK]; exact b⟩
        | own c =>
          obtain ⟨p, o, a1, a2, a3, a4, _⟩ := z
          exact ⟨p, o, a1, a2, a3, by rw [show (G.blk C' δ σ F H).K = G.K from hK]; exact a4, blk_M_of e1 rfl a1⟩
        | arg c =>
          obtain ⟨p, o, a1, a2, a3, a4, _⟩ := z
          exact ⟨p, o, a1, a2, a3, by rw [show (G.blk C' δ σ F H).K = G.K from hK]; exact a4, blk_M_of e1 rfl a1⟩
  di := fun i j s t p hij e1 e2 q1 q2 r1 r2 => by
    have get : ∀ (m : Nat) (u : Sl), (wipeD (δ.map toArg) vs)[m]? = some u → u.held = true → m ∉ vs ∧ ∃ u', δ[m]? = some u' ∧ u'.held = true := fun m u e q => by
      have hl : m < δ.length := by
        have := (List.getElem?_eq_some_iff.mp e).1
        rw [wipeD_len, List.length_map] at this
        exact this
      by_cases hi : m ∈ vs
      · rw [wipeD_in (by rw [List.length_map]; exact hl) hi] at e
        cases e
        cases q
      · refine ⟨hi, ?_⟩
        rw [wipeD_out hi, List.getElem?_map] at e
        cases e1 : δ[m]? with
        | none => rw [e1] at e; cases e
        | some t =>
          rw [e1] at e
          have et : toArg t = u := Option.some.inj e
          subst et
          refine ⟨t, rfl, ?_⟩
          cases t <;> first | rfl | exact q
    obtain ⟨n1, u1, a1, b1⟩ := get i s e1 q1
    obtain ⟨n2, u2, a2, b2⟩ := get j t e2 q2
    rw [wipe_out n1] at r1
    rw [wipe_out n2] at r2
    exact k.di i j u1 u2 p hij a1 a2 b1 b2 r1 r2
  tb := k.tabF
  ma := fun i p e => by
    obtain ⟨s, h1, h2, h3⟩ := blk_M e
    have hi : i ∉ vs := fun z => by
      have := List.all_eq_true.mp hv i z
      rw [h1] at this
      simp only [h2] at this
      cases this
    rw [wipeD_out hi, List.getElem?_map, h1]
    cases s with
    | own c => exact ⟨c, rfl⟩
    | arg c => exact ⟨c, rfl⟩
    | _ => cases h2
theorem blk_out (k : St1 G δ σ F H) (hK : C'.K = G.K) (k2 : St1 (G.blk C' δ σ F H) δ2 σ2 F2 H2) (hl : σ2.length = σ.length) : St1 G (back δ δ2) σ F2 H2 where
  len := by rw [back_len]; exact k.len
  fh := k2.fh
  f0 := k.f0.trans k2.f0
  h0 := fun b o hm e => k2.h0 b o (fun i hi => by
    obtain ⟨s, h1, h2, h3⟩ := blk_M hi
    have z := k.sl i s h1
    cases s with
    | own c =>
      obtain ⟨p, o', a1, a2, a3, a4, a5, a6⟩ := z
      rw [h3] at a1
      cases a1
      rw [a6] at e
      cases e
    | arg c =>
      obtain ⟨p, o', a1, a2, a3, a4, a5⟩ := z
      rw [h3] at a1
      cases a1
      exact hm i a5
    | _ => cases h2) (k.h0 b o hm e)
  fn := fun b z => by
    rcases k2.fn b z with q | q
    · exact k.fn b q
    · exact .inr (k.new0 q)
  sl := fun i s e => by
    have hlt : i < δ.length := by
      have := (List.getElem?_eq_some_iff.mp e).1
      rw [back_len] at this
      exact this
    have hlt2 : i < δ2.length := by rw [k2.len, hl, ← k.len]; exact hlt
    obtain ⟨t, et⟩ : ∃ t, δ[i]? = some t := ⟨_, List.getElem?_eq_getElem hlt⟩
    obtain ⟨u, eu⟩ : ∃ u, δ2[i]? = some u := ⟨_, List.getElem?_eq_getElem hlt2⟩
    rw [back_get δ δ2 i t u et eu] at e
    cases e
    have z := k.sl i t et
    have zz : ∀ p, t.held = true → σ[i]? = some (some (.ref p)) → ∃ c o, u = .arg c ∧ H2 p = some o ∧ F2 p = none ∧ CoOk G.K F2 c o := fun p th e1 => by
      have em := blk_M_of (G := G) (C' := C') (F := F) (H := H) et th e1
      obtain ⟨c, hc⟩ := k2.ma i p em
      rw [eu] at hc
      cases hc
      obtain ⟨q, o, a1, a2, a3, a4, a5⟩ := k2.sl i _ eu
      rw [em] at a5
      cases a5
      exact ⟨c, o, rfl, a2, a3, by rw [← show (G.blk C' δ σ F H).K = G.K from hK]; exact a4⟩
    cases t with
    | no => trivial
    | fz d =>
      obtain ⟨v, a, b⟩ := z
      exact ⟨v, a, dp_mono k2.f0 _ _ b⟩
    | own c =>
      obtain ⟨p, o, a1, a2, a3, a4, a5, a6⟩ := z
      obtain ⟨c', o', rfl, b1, b2, b3⟩ := zz p rfl a1
      exact ⟨p, o', a1, b1, b2, b3, a5, a6⟩
    | arg c =>
      obtain ⟨p, o, a1, a2, a3, a4, a5⟩ := z
      obtain ⟨c', o', rfl, b1, b2, b3⟩ := zz p rfl a1
      exact ⟨p, o', a1, b1, b2, b3, a5⟩
  di := fun i j s t p hij e1 e2 q1 q2 r1 r2 => by
    have get : ∀ (m : Nat) (u : Sl), (back δ δ2)[m]? = some u → u.held = true → ∃ u', δ[m]? = some u' ∧ u'.held = true := fun m u e q => by
      have hlt : m < δ.length := by
        have := (List.getElem?_eq_some_iff.mp e).1
        rw [back_len] at this
        exact this
      have hlt2 : m < δ2.length := by rw [k2.len, hl, ← k.len]; exact hlt
      obtain ⟨t, et⟩ : ∃ t, δ[m]? = some t := ⟨_, List.getElem?_eq_getElem hlt⟩
      obtain ⟨u', eu⟩ : ∃ u, δ2[m]? = some u := ⟨_, List.getElem?_eq_getElem hlt2⟩
      rw [back_get δ δ2 m t u' et eu] at e
      cases e
      refine ⟨t, et, ?_⟩
      cases t with
      | own c => rfl
      | arg c => rfl
      | no => cases u' <;> exact q
      | fz d => cases u' <;> exact q
    obtain ⟨u1, a1, b1⟩ := get i s e1 q1
    obtain ⟨u2, a2, b2⟩ := get j t e2 q2
    exact k.di i j u1 u2 p hij a1 a2 b1 b2 r1 r2
  tb := k.tb
  ma := fun i p e => by
    obtain ⟨c, hc⟩ := k.ma i p e
    obtain ⟨q, o, a1, a2, a3, a4, a5⟩ := k.sl i _ hc
    have em := blk_M_of (G := G) (C' := C') (F := F) (H := H) hc rfl a1
    obtain ⟨c2, hc2⟩ := k2.ma i q em
    exact ⟨c2, by rw [back_get δ δ2 i _ _ hc hc2]; rfl⟩
/-- what is new and of no slot stays through a block -/
theorem blk_val (k : St1 G δ σ F H) (k2 : St1 (G.blk C' δ σ F H) δ2 σ2 F2 H2) (hl : σ2.length = σ.length) {v : V} {c : Co} (w : VlOk G δ σ F H v (.own c)) : VlOk G (back δ δ2) σ F2 H2 v (.own c) := by
  obtain ⟨p, o, rfl, h1, h2, h3, h4, h5⟩ := w
  refine ⟨p, o, rfl, k2.h0 p o (fun i hi => ?_) h1, ?_, h3.mono k2.f0, h4, fun i s e q => ?_⟩
  · obtain ⟨s, a1, a2, a3⟩ := blk_M hi
    exact h5 i s a1 a2 a3
  · cases e : F2 p with
    | none => rfl
    | some u =>
      rcases k2.fn p (by rw [e]; simp) with z | z
      · exact absurd h2 z
      · have z : H p = none := z
        rw [h1] at z
        cases z
  · have hlt : i < δ.length := by
      have := (List.getElem?_eq_some_iff.mp e).1
      rw [back_len] at this
      exact this
    have hlt2 : i < δ2.length := by rw [k2.len, hl, ← k.len]; exact hlt
    obtain ⟨t, et⟩ : ∃ t, δ[i]? = some t := ⟨_, List.getElem?_eq_getElem hlt⟩
    obtain ⟨u', eu⟩ : ∃ u, δ2[i]? = some u := ⟨_, List.getElem?_eq_getElem hlt2⟩
    rw [back_get δ δ2 i t u' et eu] at e
    cases e
    refine h5 i t et ?_
    cases t with
    | own c => rfl
    | arg c => rfl
    | no => cases u' <;> exact q
    | fz d => cases u' <;> exact q
/-- a new object that is of no slot is changed -/
theorem St1.updTemp (k : St1 G δ σ F H) {p : Addr} {o' : HO} {c : Co} (w : VlOk G δ σ F H (.ref p) (.own c)) : St1 G δ σ F (upd H p o') := by
  obtain ⟨q, o1, e, h1, h2, h3, h4, h5⟩ := w
  cases e
  exact {
    len := k.len
    fh := fun b u e => by
      rw [upd_ne (fun z => by subst z; rw [h2] at e; cases e)]
      exact k.fh _ _ e
    f0 := k.f0
    h0 := fun b u hm e => by
      rw [upd_ne (fun z => by subst z; rw [h4] at e; cases e)]
      exact k.h0 b u hm e
    fn := k.fn
    sl := fun i s e => (k.sl i s e).mono (Same.refl F) fun b u g1 g2 g3 g4 => ⟨by
      rw [upd_ne (fun z => by subst z; exact h5 i s e g3 g4)]
      exact g2, g1⟩
    di := k.di
    ma := k.ma
    tb := k.tb }
end
end DL

set_option Elab.async false
set_option linter.all false
set_option maxRecDepth 100000
set_option autoImplicit false
namespace DL
open PySem PySem.Spec PyProof.Rows L2
variable [Tabs]

/-! ### comprehensions -/
def nox (C : Cf) : Cf := ⟨C.K, fun _ _ _ _ => False⟩
def onTurn (vs : List Nat) (g : Dg) (tt : Dt) (te : De) (d : D) (δb : DS) : R (Option D) := match g d δb with
  | .ok .nx δ2 => (tt δ2).bind fun b δ3 => match b with
    | true => (te δ3).bind fun x δ4 => (kp x δ4).bind fun d δ5 => .ok (some d) δ5
    | false => .ok none δ3
  | _ => .bad
def backR {α : Type} (δ : DS) (r : R α) : R α := match r with
  | .ok o δ' => .ok o (back δ δ')
  | _ => .bad
def turnL (vs : List Nat) (g : Dg) (tt : Dt) (te : De) (d : D) (δ : DS) : R (Option D) := backR δ (onTurn vs g tt te d (wipeD (δ.map toArg) vs))
def compL (f : D → DS → R (Option D)) : List D → DS → R (List D)
  | [], δ => .ok [] δ
  | d :: ds, δ => match f d δ with
    | .ok o δ1 => match compL f ds δ1 with
      | .ok l δ2 => .ok (o.toList ++ l) δ2
      | _ => .bad
    | _ => .bad
def dLc (vs : List Nat) (ti : Di) (g : Dg) (tt : Dt) (te : De) : De := fun δ => (ti δ).bind fun ds δ1 => okIf (small ds.length && freeAt vs δ1) (match compL (turnL vs g tt te) ds δ1 with
  | .ok l δ2 => .ok (.own (.lst l)) δ2
  | _ => .bad)
def dYes : Dt := fun δ => .ok true δ
theorem compL_cons {f : D → DS → R (Option D)} {d : D} {ds l : List D} {δ δe : DS} (h : compL f (d :: ds) δ = .ok l δe) : ∃ o δ1 l', f d δ = .ok o δ1 ∧ compL f ds δ1 = .ok l' δe ∧ l = o.toList ++ l' := by
  unfold compL at h
  cases e : f d δ with
  | ok o δ1 =>
    rw [e] at h
    simp only at h
    cases e2 : compL f ds δ1 with
    | ok l' δ2 =>
      rw [e2] at h
      cases h
      exact ⟨o, δ1, l', rfl, e2, rfl⟩
    | ex c s => rw [e2] at h; cases h
    | bad => rw [e2] at h; cases h
  | ex c s => rw [e] at h; cases h
  | bad => rw [e] at h; cases h
theorem freeAt_back : ∀ {vs : List Nat} {δ δ' : DS}, freeAt vs δ = true → freeAt vs (back δ δ') = true := fun {vs δ δ'} h => by
  refine List.all_eq_true.mpr fun i hi => ?_
  have z := List.all_eq_true.mp h i hi
  cases e : (back δ δ')[i]? with
  | none => rfl
  | some s =>
    have hlt : i < δ.length := by
      have := (List.getElem?_eq_some_iff.mp e).1
      rw [back_len] at this
      exact this
    obtain ⟨t, et⟩ : ∃ t, δ[i]? = some t := ⟨_, List.getElem?_eq_getElem hlt⟩
    rw [et] at z
    have bk : ∀ (δ δ' : DS) (i : Nat) (s t : Sl), δ[i]? = some t → (back δ δ')[i]? = some s → t.held = false → s.held = false := by
      intro δ
      induction δ with
      | nil => intro δ' i s t h; simp at h
      | cons u δ ih =>
        intro δ' i s t h h' hh
        cases δ' with
        | nil => cases i with
          | zero => simp at h; subst h; simp [back] at h'; subst h'; exact hh
          | succ i => exact ih [] i s t (by simpa using h) (by simpa [back] using h') hh
        | cons u' δ' => cases i with
          | zero =>
            simp at h
            subst h
            simp [back] at h'
            subst h'
            cases u with
            | own c => cases hh
            | arg c => cases hh
            | no => cases u' <;> rfl
            | fz d => cases u' <;> rfl
          | succ i => exact ih δ' i s t (by simpa using h) (by simpa [back] using h') hh
    have th : t.held = false := by simpa using z
    have sh := bk δ δ' i s t et e th
    show (!s.held) = true
    rw [sh]
    rfl
section
variable {X : Cx} {C : Cf} {e a b c : Expr} {ta tb tc : De} {pos : Pos}
theorem upT_yes : ∀ σ H Q, upT C dYes σ H Q → tYes σ H Q := fun σ H Q ⟨G, δ, F, hC, k, h⟩ => h true F H k (Same.refl F) rfl
theorem pts_weak {ifs : List Expr} {t t' : TT} (h : PTs X ifs t) (w : ∀ σ H Q, t' σ H Q → t σ H Q) : PTs X ifs t' := ⟨fun pins s σ H Q I q => h.run pins s σ H Q I (w σ H Q q)⟩
theorem ptsd_nil : PTs X [] (upT C dYes) := pts_weak pts_nil upT_yes
theorem ptsd_one {t : Dt} (h : PT X c (upT C t)) : PTs X [c] (upT C t) := pts_one h
/-- one turn of a comprehension, as the rule asks for it -/
theorem lc_turn {G : Ct} {δ : DS} {σ : L2.St} {F H : Hp} {vs ts : List Nat} {g : Dg} {tt : Dt} {te : De} {d : D} {o : Option D} {δ1 : DS} {x : V} {p : Addr} {acc : List D} {Nx : Hp → Prop} (k : St1 G δ σ F H) (w : Dp G.K F x d) (hts : ∀ t ∈ ts, t ∈ vs) (hv : freeAt vs δ = true)
    (wa : VlOk G δ σ F H (.ref p) (.own (.lst acc))) (sz : small acc.length = true) (e : turnL vs g tt te d δ = .ok o δ1)
    (q : ∀ F' H', St1 G δ1 σ F' H' → Same F F' → VlOk G δ1 σ F' H' (.ref p) (.own (.lst (acc ++ o.toList))) → Nx H') :
    upG (nox G.C) ts g x (wipe σ vs) H fun σ2 H2 => wipe σ2 vs = wipe σ vs ∧ upT (nox G.C) tt σ2 H2 fun b H3 => if b = true then up (nox G.C) te σ2 H3 fun y H4 => ∃ acc, H4 p = some (.lst acc) ∧ acc.length < sizeLine ∧ Nx (upd H4 p (.lst (acc ++ [y]))) else Nx H3 := by
  have kb := blk_in (C' := nox G.C) (vs := vs) k rfl hv
  unfold turnL onTurn at e
  refine ⟨G.blk (nox G.C) δ σ F H, _, F, d, rfl, kb, w, ?_⟩
  cases e1 : g d (wipeD (δ.map toArg) vs) with
  | ok og δ2 =>
    rw [e1] at e
    cases og with
    | nx =>
      intro σ2 F2 H2 k2 g2 a2
      have wl : σ2.length = (wipe σ vs).length := a2.2
      refine ⟨?_, ?_⟩
      · have z : wipe σ2 vs = wipe (wipe σ vs) vs := wipe_eq (fun j hj => a2.1 j fun z => hj (hts j z)) wl
        rw [z]
        exact wipe_eq (fun j hj => wipe_out hj) (wipe_length σ vs)
      · rw [wipe_length] at wl
        simp only at e
        cases e2 : tt δ2 with
        | ok b δ3 =>
          rw [e2] at e
          refine ⟨G.blk (nox G.C) δ σ F H, δ2, F2, rfl, k2, ?_⟩
          rw [e2]
          intro b' F3 H3 k3 g3 w3
          have w3 : b' = b := w3
          subst w3
          cases b' with
          | false =>
            refine iteF ?_
            cases e
            have k4 := blk_out (C' := nox G.C) k rfl k3 wl
            refine q F3 H3 k4 (g2.trans g3) ?_
            have := blk_val k k3 wl wa
            simpa using this
          | true =>
            refine iteT ?_
            have e : backR δ ((te δ3).bind fun x δ4 => (kp x δ4).bind fun d δ5 => R.ok (some d) δ5) = .ok o δ1 := e
            cases e3 : te δ3 with
            | ok x4 δ4 =>
              rw [e3] at e
              refine ⟨G.blk (nox G.C) δ σ F H, δ3, F3, rfl, k3, ?_⟩
              rw [e3]
              intro y F4 H4 k4 g4 w4
              have e : backR δ ((kp x4 δ4).bind fun d δ5 => R.ok (some d) δ5) = .ok o δ1 := e
              cases e4 : kp x4 δ4 with
              | ok d5 δ5 =>
                rw [e4] at e
                cases e
                obtain ⟨F5, k5, g5, w5⟩ := k4.keepV w4 e4
                have k6 := blk_out (C' := nox G.C) k rfl k5 wl
                have w6 := blk_val k k5 wl wa
                obtain ⟨p', o6, q1, q2, q3, ⟨vs6, rfl, q4⟩, q5⟩ := id w6
                cases q1
                refine ⟨vs6, q2, by rw [dpa_len q4]; exact small_lt sz, q F5 _ (k6.updTemp w6) (((g2.trans g3).trans g4).trans g5) ⟨p, _, rfl, upd_same, q3, ⟨_, rfl, dpa_app q4 (.cons w5 .nil)⟩, q5.1, q5.2⟩⟩
              | ex cc s => rw [e4] at e; cases e
              | bad => rw [e4] at e; cases e
            | ex cc s => rw [e3] at e; cases e
            | bad => rw [e3] at e; cases e
        | ex cc s => rw [e2] at e; cases e
        | bad => rw [e2] at e; cases e
    | bk => cases e
    | ct => cases e
    | rt v => cases e
  | ex cc s => rw [e1] at e; cases e
  | bad => rw [e1] at e; cases e
theorem VlOk.grow {G : Ct} {δ : DS} {σ : L2.St} {F H F' H' : Hp} {p : Addr} {c : Co} (w : VlOk G δ σ F H (.ref p) (.own c)) (f1 : Same F F') (f3 : Same H H') (f4 : ∀ b, F' b ≠ none → F b ≠ none ∨ H b = none) : VlOk G δ σ F' H' (.ref p) (.own c) := by
  obtain ⟨q, o, e, h1, h2, h3, h4, h5⟩ := w
  cases e
  refine ⟨p, o, rfl, f3 _ _ h1, ?_, h3.mono f1, h4, h5⟩
  cases e : F' p with
  | none => rfl
  | some u =>
    rcases f4 p (by rw [e]; simp) with z | z
    · exact absurd h2 z
    · rw [h1] at z; cases z
theorem rf_lc {vs ts : List Nat} {ti : Di} {g : Dg} {tt : Dt} {te : De} (hts : ∀ t ∈ ts, t ∈ vs) : ∀ σ H Q, up C (dLc vs ti g tt te) σ H Q → tLc (upI C ti) (upG (nox C) ts g) (upT (nox C) tt) (up (nox C) te) vs σ H Q := fun σ H Q ⟨G, δ, F, hC, k, h⟩ => by
  subst hC
  refine ⟨G, δ, F, rfl, k, finA_bind h fun ds δ1 J F1 H1 k1 g1 w1 h1 => ?_⟩
  have w1 : ItOk G.K J F1 ds := w1
  obtain ⟨z, h2⟩ := okIf_fin h1
  rw [Bool.and_eq_true] at z
  obtain ⟨z1, z2⟩ := z
  cases ec : compL (turnL vs g tt te) ds δ1 with
  | ex c s => rw [ec] at h2; exact h2.elim
  | bad => rw [ec] at h2; exact h2.elim
  | ok L δe =>
    rw [ec] at h2
    intro p hp
    have z1' : ds.length ≤ 100000 := of_decide_eq_true z1
    refine ⟨fun i m H => m = ds.length - i ∧ i ≤ ds.length ∧ ∃ δ F acc l, St1 G δ σ F H ∧ Same F1 F ∧ freeAt vs δ = true ∧ VlOk G δ σ F H (.ref p) (.own (.lst acc)) ∧ compL (turnL vs g tt te) (ds.drop i) δ = .ok l δe ∧ acc.length ≤ i ∧ acc ++ l = L,
      ⟨ds.length, by simp, Nat.zero_le _, δ1, F1, [], L, k1.newOwn hp, Same.refl F1, z2, k1.valOwn hp ⟨[], rfl, .nil⟩, ec, Nat.le_refl _, rfl⟩, ?_⟩
    rintro i m H2 ⟨rfl, hi, δ2, F2, acc, l, k2, g2, hv, wa, e2, hacc, rfl⟩
    obtain ⟨wgo, wst⟩ := w1 F2 H2 g2 k2.fh i
    by_cases hlt : i < ds.length
    · right
      obtain ⟨go, yl⟩ := wgo ds[i] (List.getElem?_eq_getElem hlt)
      rw [List.drop_eq_getElem_cons hlt] at e2
      obtain ⟨o, δ3, l', e3, e4, rfl⟩ := compL_cons e2
      refine ⟨go, fun H' => ∃ F', St1 G δ3 σ F' H' ∧ Same F1 F' ∧ VlOk G δ3 σ F' H' (.ref p) (.own (.lst (acc ++ o.toList))), fun H' ⟨F', q1, q2, q3⟩ => ⟨ds.length - (i + 1), by omega, rfl, hlt, δ3, F', acc ++ o.toList, l', q1, q2, ?_, q3, e4, ?_, by rw [List.append_assoc]⟩, fun x H3 y => ?_⟩
      · unfold turnL backR at e3
        split at e3
        · cases e3
          exact freeAt_back hv
        · cases e3
      · rw [List.length_append]
        have : o.toList.length ≤ 1 := by cases o <;> simp
        omega
      · obtain ⟨F3, f1, f2, f3, f4, w3⟩ := yl x H3 y
        have k3 := grow_it k2 f1 f2 f3 f4
        exact lc_turn k3 w3 hts hv (wa.grow f1 f3 f4) (decide_eq_true (by omega)) e3 fun F' H' q1 q2 q3 => ⟨F', q1, (g2.trans f1).trans q2, q3⟩
    · left
      have e : i = ds.length := by omega
      subst e
      refine ⟨wst rfl, ?_⟩
      rw [List.drop_length] at e2
      cases e2
      rw [List.append_nil] at h2
      exact h2 (.ref p) F2 H2 k2 g2 wa
theorem pd_lc {elt tg iter : Expr} {ifs : List Expr} {scope : Scope} {own : List (Str × Nat)} {ts : List Nat} {ti : Di} {g : Dg} {tt : Dt} {te : De} (hi : PI X tg iter (upI C ti)) (hN : X.N.Nodup) (ok : BlkOk X.N X.env.scope scope own)
    (hg : ∀ (s : Shared) (H : Hp) (Ca : Addr) (cl : List (Str × Addr)) (fp : List Addr), PG (X.blk s H scope (compEnvC scope cl Ca X.env) fp) tg (upG (nox C) ts g)) (ht : ∀ (s : Shared) (H : Hp) (Ca : Addr) (cl : List (Str × Addr)) (fp : List Addr), PTs (X.blk s H scope (compEnvC scope cl Ca X.env) fp) ifs (upT (nox C) tt))
    (he : ∀ (s : Shared) (H : Hp) (Ca : Addr) (cl : List (Str × Addr)) (fp : List Addr), PE (X.blk s H scope (compEnvC scope cl Ca X.env) fp) elt (up (nox C) te)) (hts : ∀ t ∈ ts, t ∈ own.map (·.2) := by decide) (hc : X.calm = true := by rfl) (hs : ∀ x, foldedSetIterable iter X.env x = pure x := by intro _; rfl) :
    PE X (.ListComp elt [⟨tg, iter, ifs, 0⟩] scope pos) (up C (dLc (own.map (·.2)) ti g tt te)) := pe_weak (pe_lc hc hN hi ok hg ht he hs) (rf_lc hts)
theorem pds_setLc (i : Nat) {y : Str} {py spos : Pos} {elt tg iter : Expr} {ifs : List Expr} {scope : Scope} {own : List (Str × Nat)} {ts : List Nat} {ti : Di} {g : Dg} {tt : Dt} {te : De} (hi : PI X tg iter (upI C ti)) (hN : X.N.Nodup) (ok : BlkOk X.N X.env.scope scope own)
    (hg : ∀ (s : Shared) (H : Hp) (Ca : Addr) (cl : List (Str × Addr)) (fp : List Addr), PG (X.blk s H scope (compEnvC scope cl Ca X.env) fp) tg (upG (nox C) ts g)) (ht : ∀ (s : Shared) (H : Hp) (Ca : Addr) (cl : List (Str × Addr)) (fp : List Addr), PTs (X.blk s H scope (compEnvC scope cl Ca X.env) fp) ifs (upT (nox C) tt))
    (he : ∀ (s : Shared) (H : Hp) (Ca : Addr) (cl : List (Str × Addr)) (fp : List Addr), PE (X.blk s H scope (compEnvC scope cl Ca X.env) fp) elt (up (nox C) te)) (hsw : swapsWith (.ListComp elt [⟨tg, iter, ifs, 0⟩] scope pos) (some (.Name y py)) spos.line X.env = pure true) (hy : X.N[i]? = some y := by rfl) (hyl : X.env.scope.names.lookup y = some .local := by rfl)
    (hts : ∀ t ∈ ts, t ∈ own.map (·.2) := by decide) (hc : X.calm = true := by rfl) (hs : ∀ x, foldedSetIterable iter X.env x = pure x := by intro _; rfl) :
    PS X (.Assign [.Name y py] (.ListComp elt [⟨tg, iter, ifs, 0⟩] scope pos) spos) (ups C (dAsg i (dLc (own.map (·.2)) ti g tt te))) := ps_weak (ps_setLc hc hN hy hyl hsw hi ok hg ht he hs) (rf_asg (rf_lc hts))
end
end DL

set_option Elab.async false
set_option linter.all false
set_option maxRecDepth 100000
set_option autoImplicit false
namespace DL
open PySem PySem.Spec PyProof.Rows L2
variable [Tabs]

/-! ### arguments: by value, or the slot itself -/
inductive Am where
  | fz (d : D) | ref (i : Nat)
def AmOk (G : Ct) (σ : L2.St) (F : Hp) (v : V) : Am → Prop
  | .fz d => Dp G.K F v d
  | .ref i => σ[i]? = some (some v)
abbrev Da := DS → R (List Am)
def WA (G : Ct) (σ : L2.St) : DS → Hp → Hp → List V → List Am → Prop := fun _ F _ vs as => Paired (fun v a => AmOk G σ F v a) vs as
def upA (C : Cf) (ta : Da) : TA := fun σ H Q => ∃ G δ F, G.C = C ∧ St1 G δ σ F H ∧ finA G (WA G σ) (ta δ) σ F Q
theorem AmOk.mono {G : Ct} {σ : L2.St} {F F' : Hp} {v : V} {a : Am} (h : AmOk G σ F v a) (f : Same F F') : AmOk G σ F' v a := by
  cases a with
  | fz d => exact dp_mono f _ _ h
  | ref i => exact h
def aNil : Da := fun δ => .ok [] δ
def aVal (a : De) (l : Da) : Da := fun δ => (a δ).bind fun x δ1 => (kp x δ1).bind fun d δ2 => (l δ2).bind fun ds δ3 => .ok (.fz d :: ds) δ3
def known (i : Nat) (δ : DS) : Bool := match δ[i]? with
  | some .no => false
  | some _ => true
  | none => false
def aRef (i : Nat) (l : Da) : Da := fun δ => okIf (known i δ) ((l δ).bind fun ds δ3 => .ok (.ref i :: ds) δ3)
theorem known_some {G : Ct} {δ : DS} {σ : L2.St} {F H : Hp} {i : Nat} (k : St1 G δ σ F H) (h : known i δ = true) : ∃ v, σ[i]? = some (some v) := by
  unfold known at h
  cases e : δ[i]? with
  | none => rw [e] at h; cases h
  | some s =>
    rw [e] at h
    have z := k.sl i s e
    cases s with
    | no => cases h
    | fz d => obtain ⟨v, e, _⟩ := z; exact ⟨v, e⟩
    | own c => obtain ⟨p, o, e, _⟩ := z; exact ⟨_, e⟩
    | arg c => obtain ⟨p, o, e, _⟩ := z; exact ⟨_, e⟩
section
variable {X : Cx} {C : Cf} {e a b c : Expr} {ta tb tc : De} {pos : Pos}
theorem paa_nil : PA X [] (upA C aNil) := pa_weak pa_nil fun σ H Q ⟨G, δ, F, hC, k, h⟩ => h [] F H k (Same.refl F) .nil
theorem paa_val {es : List Expr} {tl : Da} (ha : PE X e (up C ta)) (hr : PA X es (upA C tl)) (hs : starEach (e :: es) X.env = (false, eval e X.env) :: starEach es X.env := by rfl) : PA X (e :: es) (upA C (aVal ta tl)) :=
  pa_weak (pa_cons ha hr hs) fun σ H Q ⟨G, δ, F, hC, k, h⟩ => by
    subst hC
    refine ⟨G, δ, F, rfl, k, finA_bind h fun x δ1 v F1 H1 k1 g1 w1 h1 => ?_⟩
    obtain ⟨d, δ2, F2, k2, g2, w2, h2⟩ := kp_bind k1 h1 w1
    refine ⟨G, δ2, F2, rfl, k2, finA_bind h2 fun ds δ3 vs F3 H3 k3 g3 w3 h3 => ?_⟩
    exact h3 (v :: vs) F3 H3 k3 (Same.refl F3) (.cons (dp_mono g3 _ _ w2) w3)
theorem paa_ref (i : Nat) {x : Str} {p1 : Pos} {es : List Expr} {tl : Da} (hr : PA X es (upA C tl)) (hN : X.N[i]? = some x := by rfl) (hv : Vis X.env.scope x := by first | exact Or.inl rfl | exact Or.inr (Or.inl rfl) | exact Or.inr (Or.inr rfl)) (hs : starEach (.Name x p1 :: es) X.env = (false, eval (.Name x p1) X.env) :: starEach es X.env := by rfl) (hd : (x == ("__debug__" : Str)) = false := by decide)
    (hcd : (x == ("__classdict__" : Str)) = false := by decide) : PA X (.Name x p1 :: es) (upA C (aRef i tl)) :=
  pa_weak (pa_cons (pe_var hN hv hd hcd) hr hs) fun σ H Q ⟨G, δ, F, hC, k, h⟩ => by
    subst hC
    obtain ⟨z, h⟩ := okIf_fin h
    obtain ⟨v, e⟩ := known_some k z
    refine ⟨v, e, G, δ, F, rfl, k, finA_bind h fun ds δ3 vs F3 H3 k3 g3 w3 h3 => ?_⟩
    exact h3 (v :: vs) F3 H3 k3 (Same.refl F3) (.cons e w3)
end
/-! ### a def's promise on data -/
def AOk (K : PySem.W.Frag) (F H : Hp) (v : V) : Sl → Prop
  | .fz d => Dp K F v d
  | .arg c => ∃ p o, v = .ref p ∧ H p = some o ∧ F p = none ∧ CoOk K F c o
  | _ => False
structure ArgsOk (K : PySem.W.Frag) (F H : Hp) (vs : List V) (as : List Sl) : Prop where
  len : vs.length = as.length
  here : ∀ (i : Nat) (s : Sl), as[i]? = some s → ∃ v, vs[i]? = some v ∧ AOk K F H v s
  di : ∀ (i j : Nat) (c d : Co) (p : Addr), i ≠ j → as[i]? = some (.arg c) → as[j]? = some (.arg d) → vs[i]? = some (.ref p) → vs[j]? = some (.ref p) → False
  tb : TabF F
structure PostOk (K : PySem.W.Frag) (F H : Hp) (vs : List V) (as : List Sl) (δ' : DS) (F' H' : Hp) : Prop where
  ff : Same F F'
  fh : Same F' H'
  hh : ∀ (b : Addr) (o : HO), (∀ (i : Nat) (c : Co), as[i]? = some (.arg c) → vs[i]? ≠ some (.ref b)) → H b = some o → H' b = some o
  fn : ∀ b, F' b ≠ none → F b ≠ none ∨ H b = none
  ar : ∀ (i : Nat) (c : Co) (p : Addr), as[i]? = some (.arg c) → vs[i]? = some (.ref p) → ∃ c' o', δ'[i]? = some (.arg c') ∧ H' p = some o' ∧ F' p = none ∧ CoOk K F' c' o'
def RetOk (K : PySem.W.Frag) (F' H' H : Hp) (v : V) : Vl → Prop
  | .fz d => Dp K F' v d
  | .own c => ∃ p o, v = .ref p ∧ H p = none ∧ H' p = some o ∧ F' p = none ∧ CoOk K F' c o
  | .loc _ => False
def dspM (K : PySem.W.Frag) (F : Hp) (as : List Sl) (vs : List V) (H : Hp) (Q : VK) (E : XK) : R Vl → Prop
  | .ok r δ' => ∀ v F' H', PostOk K F H vs as δ' F' H' → RetOk K F' H' H v r → Q v H'
  | .ex c δ' => ∀ F' H', PostOk K F H vs as δ' F' H' → E c none H'
  | .bad => False
def dsp (K : PySem.W.Frag) (den : List Sl → R Vl) : Sp := fun vs H Q E => ∃ F as, Same F H ∧ ArgsOk K F H vs as ∧ dspM K F as vs H Q E (den as)

/-- which argument is a slot that holds an own object, at most one -/
def heldRef (δ : DS) : Am → Option Nat
  | .fz _ => none
  | .ref i => match δ[i]? with
    | some s => match s.held with
      | true => some i
      | false => none
    | none => none
def refOne (δ : DS) : List Am → Bool
  | [] => true
  | a :: as => match heldRef δ a with
    | some _ => as.all fun b => (heldRef δ b).isNone
    | none => refOne δ as
def refPos (δ : DS) : List Am → Option (Nat × Nat)
  | [] => none
  | a :: as => match heldRef δ a with
    | some i => some (0, i)
    | none => (refPos δ as).map fun q => (q.1 + 1, q.2)
def amSl (δ : DS) : Am → Sl
  | .fz d => .fz d
  | .ref i => match δ[i]? with
    | some s => toArg s
    | none => .no
def amKnown (δ : DS) : Am → Bool
  | .fz _ => true
  | .ref i => known i δ
def putBack (δ : DS) (ams : List Am) (δ' : DS) : DS := match refPos δ ams with
  | none => δ
  | some (j, i) => match δ[i]?, δ'[j]? with
    | some s, some (.arg c) => δ.set i (s.with c)
    | _, _ => δ
theorem heldRef_some {δ : DS} {a : Am} {i : Nat} (h : heldRef δ a = some i) : a = .ref i ∧ ∃ s, δ[i]? = some s ∧ s.held = true := by
  cases a with
  | fz d => cases h
  | ref j =>
    unfold heldRef at h
    simp only at h
    cases e : δ[j]? with
    | none => rw [e] at h; cases h
    | some s =>
      rw [e] at h
      simp only at h
      cases es : s.held with
      | false => rw [es] at h; cases h
      | true => rw [es] at h; cases h; exact ⟨rfl, s, e, es⟩
theorem refPos_some {δ : DS} : ∀ {ams : List Am} {j i : Nat}, refPos δ ams = some (j, i) → ∃ a, ams[j]? = some a ∧ heldRef δ a = some i
  | [], _, _, h => by cases h
  | a :: as, j, i, h => by
    unfold refPos at h
    cases e : heldRef δ a with
    | some m => rw [e] at h; cases h; exact ⟨a, rfl, e⟩
    | none =>
      rw [e] at h
      simp only at h
      cases e2 : refPos δ as with
      | none => rw [e2] at h; cases h
      | some q =>
        rw [e2] at h
        cases h
        obtain ⟨b, h1, h2⟩ := refPos_some (j := q.1) (i := q.2) e2
        exact ⟨b, by simpa using h1, h2⟩
theorem refPos_none {δ : DS} : ∀ {ams : List Am}, refPos δ ams = none → ∀ (j : Nat) (a : Am), ams[j]? = some a → heldRef δ a = none
  | [], _, _, _, h => by simp at h
  | a :: as, h, j, b, hb => by
    unfold refPos at h
    cases e : heldRef δ a with
    | some m => rw [e] at h; cases h
    | none =>
      rw [e] at h
      simp only at h
      have e2 : refPos δ as = none := by simpa using h
      cases j with
      | zero => simp at hb; subst hb; exact e
      | succ j => exact refPos_none e2 j b (by simpa using hb)
theorem refOne_at {δ : DS} : ∀ {ams : List Am} {j j' i i' : Nat} {a a' : Am}, refOne δ ams = true → ams[j]? = some a → ams[j']? = some a' → heldRef δ a = some i → heldRef δ a' = some i' → j = j'
  | [], _, _, _, _, _, _, _, h, _, _, _ => by simp at h
  | b :: as, j, j', i, i', a, a', h, h1, h2, h3, h4 => by
    unfold refOne at h
    cases e : heldRef δ b with
    | some m =>
      rw [e] at h
      have h : (as.all fun b => (heldRef δ b).isNone) = true := h
      cases j with
      | zero => cases j' with
        | zero => rfl
        | succ j' =>
          have := List.all_eq_true.mp h a' (List.mem_of_getElem? (by simpa using h2))
          rw [h4] at this
          cases this
      | succ j =>
        have := List.all_eq_true.mp h a (List.mem_of_getElem? (by simpa using h1))
        rw [h3] at this
        cases this
    | none =>
      rw [e] at h
      have h : refOne δ as = true := h
      cases j with
      | zero => simp at h1; subst h1; rw [e] at h3; cases h3
      | succ j => cases j' with
        | zero => simp at h2; subst h2; rw [e] at h4; cases h4
        | succ j' => exact congrArg (· + 1) (refOne_at (j := j) (j' := j') h (by simpa using h1) (by simpa using h2) h3 h4)
theorem amSl_arg {δ : DS} {a : Am} {c : Co} (h : amSl δ a = .arg c) : ∃ i s, a = .ref i ∧ heldRef δ a = some i ∧ δ[i]? = some s ∧ s.co = some c ∧ s.held = true := by
  cases a with
  | fz d => cases h
  | ref i =>
    unfold amSl at h
    simp only at h
    cases e : δ[i]? with
    | none => rw [e] at h; cases h
    | some s =>
      rw [e] at h
      simp only at h
      cases s with
      | own c' => cases h; exact ⟨i, _, rfl, by unfold heldRef; simp only; rw [e]; rfl, e, rfl, rfl⟩
      | arg c' => cases h; exact ⟨i, _, rfl, by unfold heldRef; simp only; rw [e]; rfl, e, rfl, rfl⟩
      | _ => cases h
section
variable {G : Ct} {δ : DS} {σ : L2.St} {F H F' H' : Hp} {vs : List V} {ams : List Am} {δ' : DS}
theorem am_at : ∀ {vs : List V} {as : List Am} {j : Nat} {a : Am}, Paired (fun v a => AmOk G σ F v a) vs as → as[j]? = some a → ∃ v, vs[j]? = some v ∧ AmOk G σ F v a
  | _, _, _, _, .nil, e => by simp at e
  | _, _, 0, _, .cons r _, e => by simp at e; subst e; exact ⟨_, rfl, r⟩
  | _, _, j + 1, _, .cons _ t, e => by
    obtain ⟨v, p, q⟩ := am_at (j := j) t (by simpa using e)
    exact ⟨v, by simpa using p, q⟩
theorem args_of (k : St1 G δ σ F H) (w : Paired (fun v a => AmOk G σ F v a) vs ams) (h1 : refOne δ ams = true) (h2 : ams.all (amKnown δ) = true) : ArgsOk G.K F H vs (ams.map (amSl δ)) where
  tb := k.tabF
  len := by rw [List.length_map]; exact Paired.length w
  here := fun j s e => by
    rw [List.getElem?_map] at e
    cases ea : ams[j]? with
    | none => rw [ea] at e; cases e
    | some a =>
      rw [ea] at e
      have es : amSl δ a = s := Option.some.inj e
      have ka := List.all_eq_true.mp h2 a (List.mem_of_getElem? ea)
      obtain ⟨v, ev, wv⟩ := am_at w ea
      refine ⟨v, ev, ?_⟩
      cases a with
      | fz d => subst es; exact wv
      | ref i =>
        have wv : σ[i]? = some (some v) := wv
        have ka : known i δ = true := ka
        unfold amSl at es
        simp only at es
        cases e1 : δ[i]? with
        | none => unfold known at ka; rw [e1] at ka; cases ka
        | some t =>
          rw [e1] at es
          subst es
          have z := k.sl i t e1
          cases t with
          | no => unfold known at ka; rw [e1] at ka; cases ka
          | fz d => obtain ⟨u, q1, q2⟩ := z; rw [wv] at q1; cases q1; exact q2
          | own c => obtain ⟨p, o, q1, q2, q3, q4, _⟩ := z; rw [wv] at q1; cases q1; exact ⟨p, o, rfl, q2, q3, q4⟩
          | arg c => obtain ⟨p, o, q1, q2, q3, q4, _⟩ := z; rw [wv] at q1; cases q1; exact ⟨p, o, rfl, q2, q3, q4⟩
  di := fun i j c d p hij e1 e2 r1 r2 => by
    rw [List.getElem?_map] at e1 e2
    cases ea : ams[i]? with
    | none => rw [ea] at e1; cases e1
    | some a => cases eb : ams[j]? with
      | none => rw [eb] at e2; cases e2
      | some b =>
        rw [ea] at e1
        rw [eb] at e2
        obtain ⟨m, _, _, hm, _⟩ := amSl_arg (Option.some.inj e1)
        obtain ⟨m', _, _, hm', _⟩ := amSl_arg (Option.some.inj e2)
        exact hij (refOne_at h1 ea eb hm hm')
/-- the state behind a call -/
theorem after_call (k : St1 G δ σ F H) (w : Paired (fun v a => AmOk G σ F v a) vs ams) (h1 : refOne δ ams = true) (h2 : ams.all (amKnown δ) = true) (P : PostOk G.K F H vs (ams.map (amSl δ)) δ' F' H') : St1 G (putBack δ ams δ') σ F' H' := by
  -- an argument's address is a held slot's
  have isArg : ∀ (j : Nat) (c : Co) (b : Addr), (ams.map (amSl δ))[j]? = some (.arg c) → vs[j]? = some (.ref b) → ∃ i s, refPos δ ams = some (j, i) ∧ δ[i]? = some s ∧ s.held = true ∧ s.co = some c ∧ σ[i]? = some (some (.ref b)) := fun j c b e1 e2 => by
    rw [List.getElem?_map] at e1
    cases ea : ams[j]? with
    | none => rw [ea] at e1; cases e1
    | some a =>
      rw [ea] at e1
      obtain ⟨i, s, rfl, q1, q2, q3, q4⟩ := amSl_arg (Option.some.inj e1)
      obtain ⟨v, ev, wv⟩ := am_at w ea
      rw [e2] at ev
      cases ev
      refine ⟨i, s, ?_, q2, q4, q3, wv⟩
      cases er : refPos δ ams with
      | none => have := refPos_none er j _ ea; rw [q1] at this; cases this
      | some q =>
        obtain ⟨j', i'⟩ := q
        obtain ⟨a', r1, r2⟩ := refPos_some er
        have := refOne_at h1 ea r1 q1 r2
        subst this
        rw [ea] at r1
        cases r1
        rw [q1] at r2
        cases r2
        rfl
  have base : ∀ (b : Addr) (o : HO), (∀ i j, refPos δ ams = some (j, i) → σ[i]? ≠ some (some (.ref b))) → H b = some o → H' b = some o := fun b o hb e => P.hh b o (fun j c e1 e2 => by
    obtain ⟨i, s, r, _, _, _, r2⟩ := isArg j c b e1 e2
    exact hb i j r r2) e
  have free : ∀ (b : Addr) (o : HO), H b = some o → F b = none → F' b = none := fun b o e f => by
    cases q : F' b with
    | none => rfl
    | some u =>
      rcases P.fn b (by rw [q]; simp) with z | z
      · exact absurd f z
      · rw [e] at z; cases z
  have keep : ∀ (m : Nat) (s : Sl), δ[m]? = some s → (∀ j, refPos δ ams ≠ some (j, m)) → SlOk G F' H' m σ[m]? s := fun m s e hm => by
    refine (k.sl m s e).mono P.ff fun b o g1 g2 g3 g4 => ⟨base b o (fun i j hr q => ?_) g2, free b o g2 g1⟩
    obtain ⟨a, r1, r2⟩ := refPos_some hr
    obtain ⟨_, t, t1, t2⟩ := heldRef_some r2
    by_cases hi : i = m
    · subst hi; exact hm j hr
    · exact k.di i m t s b hi t1 e t2 g3 q g4
  have h0' : ∀ b o, (∀ i, G.M i ≠ some b) → G.H0 b = some o → H' b = some o := fun b o hm e => base b o (fun i j hr q => by
    obtain ⟨a, r1, r2⟩ := refPos_some hr
    obtain ⟨_, t, t1, t2⟩ := heldRef_some r2
    have z := k.sl i t t1
    cases t with
    | own c => obtain ⟨p, o', a1, _, _, _, _, a2⟩ := z; rw [q] at a1; cases a1; rw [a2] at e; cases e
    | arg c => obtain ⟨p, o', a1, _, _, _, a2⟩ := z; rw [q] at a1; cases a1; exact hm i a2
    | _ => cases t2) (k.h0 b o hm e)
  have fn' : ∀ b, F' b ≠ none → G.F0 b ≠ none ∨ G.H0 b = none := fun b z => by
    rcases P.fn b z with q | q
    · exact k.fn b q
    · exact .inr (k.new0 q)
  unfold putBack
  cases er : refPos δ ams with
  | none => exact ⟨k.len, P.fh, k.f0.trans P.ff, h0', fn', fun m s e => keep m s e (fun j z => by rw [er] at z; cases z), k.di, k.ma, k.tb⟩
  | some q =>
    obtain ⟨j, i⟩ := q
    obtain ⟨a, r1, r2⟩ := refPos_some er
    obtain ⟨rfl, s, s1, s2⟩ := heldRef_some r2
    obtain ⟨v, ev, wv⟩ := am_at w r1
    have wv : σ[i]? = some (some v) := wv
    obtain ⟨c, hc⟩ : ∃ c, s.co = some c := by cases s <;> first | exact ⟨_, rfl⟩ | cases s2
    obtain ⟨p, o, p1, p2, p3, p4⟩ := k.held s1 hc
    rw [wv] at p1
    cases p1
    have eas : (ams.map (amSl δ))[j]? = some (.arg c) := by
      rw [List.getElem?_map, r1]
      show some (amSl δ (.ref i)) = _
      unfold amSl
      simp only
      rw [s1]
      cases s <;> first | (cases hc; rfl) | cases s2
    obtain ⟨c', o', a1, a2, a3, a4⟩ := P.ar j c p eas ev
    simp only
    rw [s1, a1]
    simp only
    have sh : (s.with c').held = true := by cases s <;> first | rfl | cases s2
    obtain ⟨l1, l2⟩ := k.lt s1
    refine ⟨by simpa using k.len, P.fh, k.f0.trans P.ff, h0', fn', fun m t e => ?_, fun m m' t t' b hm e e' q q' r r' => ?_, fun m b e => ?_, k.tb⟩
    · by_cases hm : m = i
      · subst hm
        rw [List.getElem?_set_self l1] at e
        cases e
        have z := k.sl m s s1
        cases s with
        | own c0 =>
          obtain ⟨p', o0, b1, b2, b3, b4, b5, b6⟩ := z
          rw [wv] at b1
          cases b1
          exact ⟨p, o', wv, a2, a3, a4, b5, b6⟩
        | arg c0 =>
          obtain ⟨p', o0, b1, b2, b3, b4, b5⟩ := z
          rw [wv] at b1
          cases b1
          exact ⟨p, o', wv, a2, a3, a4, b5⟩
        | _ => cases s2
      · rw [List.getElem?_set_ne (Ne.symm hm)] at e
        exact keep m t e fun j' z => by rw [er] at z; cases z; exact hm rfl
    · have bk : ∀ (m : Nat) (u : Sl), (δ.set i (s.with c'))[m]? = some u → u.held = true → ∃ u', δ[m]? = some u' ∧ u'.held = true := fun m u z zh => by
        by_cases hm : m = i
        · subst hm; exact ⟨s, s1, s2⟩
        · rw [List.getElem?_set_ne (Ne.symm hm)] at z; exact ⟨u, z, zh⟩
      obtain ⟨u, x1, x2⟩ := bk m t e q
      obtain ⟨u', y1, y2⟩ := bk m' t' e' q'
      exact k.di m m' u u' b hm x1 y1 x2 y2 r r'
    · obtain ⟨c0, hc0⟩ := k.ma m b e
      by_cases hm : m = i
      · subst hm
        rw [s1] at hc0
        cases hc0
        exact ⟨c', List.getElem?_set_self l1⟩
      · rw [List.getElem?_set_ne (Ne.symm hm)]
        exact ⟨c0, hc0⟩
theorem putBack_held {i : Nat} {s : Sl} (h : (putBack δ ams δ')[i]? = some s) (hs : s.held = true) : ∃ t, δ[i]? = some t ∧ t.held = true := by
  unfold putBack at h
  cases er : refPos δ ams with
  | none => rw [er] at h; exact ⟨s, h, hs⟩
  | some q =>
    obtain ⟨j, m⟩ := q
    obtain ⟨a, r1, r2⟩ := refPos_some er
    obtain ⟨rfl, t, s1, s2⟩ := heldRef_some r2
    rw [er] at h
    simp only at h
    rw [s1] at h
    by_cases hm : i = m
    · subst hm; exact ⟨t, s1, s2⟩
    · split at h
      · rw [List.getElem?_set_ne (Ne.symm hm)] at h; exact ⟨s, h, hs⟩
      · exact ⟨s, h, hs⟩
theorem ret_val (k : St1 G δ σ F H) {v : V} {r : Vl} (w : RetOk G.K F' H' H v r) : VlOk G (putBack δ ams δ') σ F' H' v r := by
  cases r with
  | fz d => exact w
  | loc i => exact w.elim
  | own c =>
    obtain ⟨p, o, rfl, h1, h2, h3, h4⟩ := w
    refine ⟨p, o, rfl, h2, h3, h4, k.new0 h1, fun i s e q => ?_⟩
    obtain ⟨t, t1, t2⟩ := putBack_held e q
    exact k.free h1 i t t1 t2
end
/-- a call: an error of it is no one's here -/
def callM (den : List Sl → R Vl) (δ : DS) (ams : List Am) : R Vl := match den (ams.map (amSl δ)) with
  | .ok r δ' => .ok r (putBack δ ams δ')
  | .ex c δ' => .ex c (putBack δ ams δ')
  | .bad => .bad
def dCall (den : List Sl → R Vl) (args : Da) : De := fun δ => (args δ).bind fun ams δ1 => okIf (refOne δ1 ams && ams.all (amKnown δ1)) (callM den δ1 ams)
section
variable {X : Cx} {C : Cf} {e a b c : Expr} {ta tb tc : De} {pos : Pos} {CX : CXT} {k : Nat} {f : Addr} {fd : FuncData} {ps : List Str} {x : Str}
theorem rf_call {den : List Sl → R Vl} {al : Da} {E : XK} (hE : ∀ (σ : L2.St) (c : Value) (H : Hp), C.E σ c none H → E c none H) : ∀ σ H Q, up C (dCall den al) σ H Q → tCall (dsp C.K den) [] E (upA C al) σ H Q := fun σ H Q ⟨G, δ, F, hC, k, h⟩ => by
  subst hC
  refine ⟨G, δ, F, rfl, k, finA_bind h fun ams δ1 vs F1 H1 k1 g1 w1 h1 => ?_⟩
  have w1 : Paired (fun v a => AmOk G σ F1 v a) vs ams := w1
  obtain ⟨z, h2⟩ := okIf_fin h1
  rw [Bool.and_eq_true] at z
  rw [List.append_nil]
  refine ⟨F1, ams.map (amSl δ1), k1.fh, args_of k1 w1 z.1 z.2, ?_⟩
  unfold callM at h2
  cases ed : den (ams.map (amSl δ1)) with
  | ok r δ' =>
    rw [ed] at h2
    exact fun v F' H' P w => h2 v F' H' (after_call k1 w1 z.1 z.2 P) P.ff (ret_val k1 w)
  | ex c δ' =>
    rw [ed] at h2
    exact fun F' H' P => hE σ c H' (h2 F' H' (after_call k1 w1 z.1 z.2 P) P.ff)
  | bad => rw [ed] at h2; exact h2.elim
/-- a call of a def that raises nothing -/
theorem pd_call {es : List Expr} {p : Pos} {den : List Sl → R Vl} {al : Da} (Fn : FnOk X.prog X.w X.K X.mg X.base CX0 k f fd ps (dsp C.K den)) (hr : Room k X.A) (hm : X.mg x = some (.ref f)) (hk : PySem.W.keepIn X.K (.ref f) = true) (hb : Binds X.K fd ps [])
    (ha : PA X (e :: es) (upA C al)) (hE : ∀ (σ : L2.St) (c : Value) (H : Hp), C.E σ c none H → False := by exact fun _ _ _ h => h) (hg : Gl X x := by rfl) (hdb : (x == ("__debug__" : Str)) = false := by decide) (he : starEach (e :: es) X.env = (false, eval e X.env) :: starEach es X.env := by rfl) (hpl : (backTo pos (starEach es X.env)).any (·.1) = false := by rfl) :
    PE X (.Call (.Name x p) (e :: es) [] pos) (up C (dCall den al)) := pe_weak (pe_call Fn hr hg hm hk hb .nil (pass0) ha hdb he hpl) (rf_call fun σ c H h => hE σ c H h)
end

/-! ### a def by its body -/
def retV (v : Vl) (δ : DS) : R Vl := match v with
  | .fz d => .ok (.fz d) δ
  | .own c => .ok (.own c) δ
  | .loc i => match δ[i]? with
    | some (.own c) => .ok (.own c) δ
    | some (.fz d) => .ok (.fz d) δ
    | _ => .bad
def endOf (r : R Out) : R Vl := match r with
  | .ok .nx δ => .ok (.fz .none) δ
  | .ok (.rt v) δ => retV v δ
  | .ex c δ => .ex c δ
  | _ => .bad
def isIn : Sl → Bool
  | .fz _ => true
  | .arg _ => true
  | _ => false
def runDef (np n : Nat) (sd : Ds) (as : List Sl) : R Vl := match as.length == np && as.all isIn with
  | true => endOf (sd (as ++ List.replicate (n - np) .no))
  | false => .bad
def argM (as : List Sl) (vs : List V) (i : Nat) : Option Addr := match as[i]?, vs[i]? with
  | some (.arg _), some (.ref p) => some p
  | _, _ => none
section
variable {K : PySem.W.Frag} {F H : Hp} {vs : List V} {as : List Sl} {n : Nat}
theorem argM_some {i : Nat} {p : Addr} (h : argM as vs i = some p) : ∃ c, as[i]? = some (.arg c) ∧ vs[i]? = some (.ref p) := by
  unfold argM at h
  cases e : as[i]? with
  | none => rw [e] at h; cases h
  | some s => rw [e] at h; cases s with
    | arg c => cases e2 : vs[i]? with
      | none => rw [e2] at h; cases h
      | some v => rw [e2] at h; cases v with
        | ref q => cases h; exact ⟨c, rfl, rfl⟩
        | _ => cases h
    | _ => cases h
theorem argM_of {i : Nat} {p : Addr} {c : Co} (h1 : as[i]? = some (.arg c)) (h2 : vs[i]? = some (.ref p)) : argM as vs i = some p := by
  unfold argM
  rw [h1, h2]
theorem start_at {i : Nat} (hi : i < vs.length) : (vs.map some ++ List.replicate n (none : Option V))[i]? = some vs[i]? := by
  rw [List.getElem?_append_left (by simpa using hi), List.getElem?_map, List.getElem?_eq_getElem hi]
  rfl
theorem begin_ok {C : Cf} (fh : Same F H) (w : ArgsOk C.K F H vs as) : St1 ⟨C, F, H, argM as vs⟩ (as ++ List.replicate n .no) (vs.map some ++ List.replicate n none) F H where
  len := by simp [w.len]
  fh := fh
  f0 := Same.refl F
  h0 := fun b o _ e => e
  fn := fun b z => .inl z
  sl := fun i s e => by
    by_cases hi : i < as.length
    · rw [List.getElem?_append_left hi] at e
      rw [start_at (by rw [w.len]; exact hi)]
      obtain ⟨v, ev, wv⟩ := w.here i s e
      rw [ev]
      cases s with
      | no => exact wv.elim
      | own c => exact wv.elim
      | fz d => exact ⟨v, rfl, wv⟩
      | arg c =>
        obtain ⟨p, o, rfl, h1, h2, h3⟩ := wv
        exact ⟨p, o, rfl, h1, h2, h3, argM_of e ev⟩
    · rw [List.getElem?_append_right (by omega)] at e
      have := List.mem_of_getElem? e
      rw [List.mem_replicate] at this
      rw [this.2]
      trivial
  di := fun i j s t p hij e1 e2 q1 q2 r1 r2 => by
    have get : ∀ (m : Nat) (u : Sl), (as ++ List.replicate n Sl.no)[m]? = some u → u.held = true → m < as.length ∧ ∃ c, as[m]? = some (.arg c) := fun m u e q => by
      by_cases hi : m < as.length
      · rw [List.getElem?_append_left hi] at e
        refine ⟨hi, ?_⟩
        obtain ⟨v, ev, wv⟩ := w.here m u e
        cases u with
        | arg c => exact ⟨c, e⟩
        | own c => exact wv.elim
        | no => cases q
        | fz d => cases q
      · rw [List.getElem?_append_right (by omega)] at e
        have := List.mem_of_getElem? e
        rw [List.mem_replicate] at this
        rw [this.2] at q
        cases q
    obtain ⟨l1, c1, a1⟩ := get i s e1 q1
    obtain ⟨l2, c2, a2⟩ := get j t e2 q2
    rw [start_at (by rw [w.len]; exact l1)] at r1
    rw [start_at (by rw [w.len]; exact l2)] at r2
    exact w.di i j c1 c2 p hij a1 a2 (Option.some.inj r1) (Option.some.inj r2)
  tb := w.tb
  ma := fun i p e => by
    obtain ⟨c, h1, h2⟩ := argM_some e
    exact ⟨c, by rw [List.getElem?_append_left (List.getElem?_eq_some_iff.mp h1).1]; exact h1⟩
theorem post_of {C : Cf} {δ' : DS} {σ' : L2.St} {F' H' : Hp} (w : ArgsOk C.K F H vs as) (k : St1 ⟨C, F, H, argM as vs⟩ δ' σ' F' H') : PostOk C.K F H vs as δ' F' H' where
  ff := k.f0
  fh := k.fh
  hh := fun b o hb e => k.h0 b o (fun i z => by
    obtain ⟨c, h1, h2⟩ := argM_some z
    exact hb i c h1 h2) e
  fn := k.fn
  ar := fun i c p h1 h2 => by
    have em := argM_of h1 h2
    obtain ⟨c', hc'⟩ := k.ma i p em
    obtain ⟨q, o, q1, q2, q3, q4, q5⟩ := k.sl i _ hc'
    have q5 : argM as vs i = some q := q5
    rw [em] at q5
    cases q5
    exact ⟨c', o, hc', q2, q3, q4⟩
end
def noxC (K : PySem.W.Frag) : Cf := ⟨K, fun _ _ _ _ => False⟩
section
variable {P : Program} {w : World} {K : PySem.W.Frag} {mg : Str → Option Value} {base : Heap}
theorem ends_of {C : Cf} {np n : Nat} {sd : Ds} {vs : List V} {H : Hp} {Q : VK} {E : XK} {N : List Str} (hE : ∀ (σ : L2.St) (c : Value) (H : Hp), E c none H → C.E σ c none H) (hn : N.length = n) (h : dsp C.K (runDef np n sd) vs H Q E) : ups C sd { nx := fun _ H' => Q .non H', rt := Q } (start N vs) H := by
  obtain ⟨F, as, fh, wa, h⟩ := h
  unfold runDef at h
  cases el : as.length == np && as.all isIn with
  | false => rw [el] at h; exact h.elim
  | true =>
    rw [el] at h
    rw [Bool.and_eq_true] at el
    have el := eq_of_beq el.1
    subst el
    refine ⟨⟨C, F, H, argM as vs⟩, as ++ List.replicate (n - as.length) .no, F, rfl, ?_, ?_⟩
    · unfold L2.start
      rw [hn, wa.len]
      exact begin_ok fh wa
    · cases es : sd (as ++ List.replicate (n - as.length) .no) with
      | bad => rw [es] at h; exact h.elim
      | ex c δ' =>
        rw [es] at h
        exact fun σ' F' H' k _ => hE σ' c H' (h F' H' (post_of wa k))
      | ok o δ' =>
        rw [es] at h
        cases o with
        | nx => exact fun σ' F' H' k _ => h .non F' H' (post_of wa k) .non
        | bk => exact h.elim
        | ct => exact h.elim
        | rt r =>
          intro v σ' F' H' k _ wv
          have h : dspM C.K F as vs H Q E (retV r δ') := h
          cases r with
          | fz d => exact h v F' H' (post_of wa k) wv
          | own c =>
            obtain ⟨p, o, rfl, h1, h2, h3, h4, _⟩ := wv
            exact h (.ref p) F' H' (post_of wa k) ⟨p, o, rfl, h4, h1, h2, h3⟩
          | loc i =>
            have wv : σ'[i]? = some (some v) := wv
            unfold retV at h
            simp only at h
            cases ei : δ'[i]? with
            | none => rw [ei] at h; exact h.elim
            | some s =>
              rw [ei] at h
              have z := k.sl i s ei
              cases s with
              | no => exact h.elim
              | arg c => exact h.elim
              | fz d =>
                obtain ⟨u, q1, q2⟩ := z
                rw [wv] at q1
                cases q1
                exact h v F' H' (post_of wa k) q2
              | own c =>
                obtain ⟨p, o, q1, q2, q3, q4, q5, q6⟩ := z
                rw [wv] at q1
                cases q1
                exact h (.ref p) F' H' (post_of wa k) ⟨p, o, rfl, q6, q2, q3, q4⟩
theorem dsp_len {np n : Nat} {sd : Ds} {vs : List V} {H : Hp} {Q : VK} {E : XK} (h : dsp K (runDef np n sd) vs H Q E) : vs.length = np := by
  obtain ⟨F, as, fh, wa, h⟩ := h
  unfold runDef at h
  cases el : as.length == np && as.all isIn with
  | false => rw [el] at h; exact h.elim
  | true =>
    rw [Bool.and_eq_true] at el
    rw [wa.len]
    exact eq_of_beq el.1
/-- a def that raises nothing, by its body -/
theorem fn_d {x qual : Str} {st : Stmt} {f : Addr} {fd : FuncData} {N ps : List Str} {k : Nat} {sd : Ds} (Fu : Fun K x qual st f fd) (S : FnScope N ps (defScope st))
    (hb : ∀ (cdv : Value) (A : Around) (outer : List Env) (s : Shared) (H : Hp) (E : XK), Room k (A.deeper (envOfC qual (defScope st) s.heap.objs.size f cdv)) → PSs (cxOf CX0 P w K mg base N qual (defScope st) f cdv A outer s H E).nox (defBody st) (ups (noxC K) sd))
    (den : List Sl → R Vl) (hden : ∀ as : List Sl, den as ≠ .bad → (runDef ps.length N.length sd as) = den as ∧ (∀ c δ, den as ≠ .ex c δ)) : FnOk P w K mg base CX0 (k + 1) f fd ps (dsp K den) := by
  have conv : ∀ vs H Q E, dsp K den vs H Q E → dsp K (runDef ps.length N.length sd) vs H Q E0 := fun vs H Q E ⟨F, as, fh, wa, h⟩ => by
    have nb : den as ≠ .bad := fun z => by rw [z] at h; exact h
    obtain ⟨e, ne⟩ := hden as nb
    refine ⟨F, as, fh, wa, ?_⟩
    rw [e]
    cases ed : den as with
    | ok r δ => rw [ed] at h; exact h
    | ex c δ => exact absurd ed (ne c δ)
    | bad => exact absurd ed nb
  refine Fu.ok S (fun vs H Q E h => dsp_len (conv vs H Q E h)) fun cdv A outer s H vs Q E hr h => ⟨_, hb cdv A outer s H E hr, ?_⟩
  exact ends_of (C := noxC K) (fun _ _ _ z => z) rfl (conv vs H Q E h)
end
end DL

set_option Elab.async false
set_option linter.all false
set_option maxRecDepth 100000
set_option autoImplicit false
namespace DL
open PySem PySem.Spec PyProof.Rows L2
variable [Tabs]
section
variable {X : Cx} {C : Cf} {e a b c : Expr} {ta tb tc : De} {pos : Pos}
/-! ### the operators, ready -/
theorem rfK_bin {r : PySem.W.Frag → R2} {f : D → D → Option Vl} {ta tb : De} (o : ∀ K, Op2 K (r K) f) (hK : C.K = X.K) : ∀ σ H Q, up C (dBin f ta tb) σ H Q → tOp (r X.K) (up C ta) (up C tb) σ H Q := by
  rw [← hK]
  exact rf_bin (o C.K)
theorem pd_add (ha : PE X a (up C ta)) (hb : PE X b (up C tb)) (hK : C.K = X.K := by rfl) : PE X (.BinOp a .Add b pos) (up C (dBin fAdd ta tb)) := pe_weak (pe_op op_addD ha hb) (rfK_bin (r := rAddD) (fun _ => o_add) hK)
theorem pd_sub (ha : PE X a (up C ta)) (hb : PE X b (up C tb)) : PE X (.BinOp a .Sub b pos) (up C (dBin fSub ta tb)) := pd_bin op_sub o_sub ha hb
theorem pd_mul (ha : PE X a (up C ta)) (hb : PE X b (up C tb)) : PE X (.BinOp a .Mult b pos) (up C (dBin fMul ta tb)) := pd_bin op_mulD o_mul ha hb
theorem pd_div (ha : PE X a (up C ta)) (hb : PE X b (up C tb)) : PE X (.BinOp a .FloorDiv b pos) (up C (dBin fDiv ta tb)) := pd_bin op_fdivW o_div ha hb
theorem pd_mod (ha : PE X a (up C ta)) (hb : PE X b (up C tb)) : PE X (.BinOp a .Mod b pos) (up C (dBin fMod ta tb)) := pd_bin op_mod o_mod ha hb
theorem pd_pow (ha : PE X a (up C ta)) (hb : PE X b (up C tb)) : PE X (.BinOp a .Pow b pos) (up C (dBin fPow ta tb)) := pd_bin op_pow o_pow ha hb
theorem pd_neg (ha : PE X a (up C ta)) : PE X (.UnaryOp .USub a pos) (up C (dUn fNeg ta)) := pe_weak (pe_un un_neg ha) (rf_un o_neg)
def rLeD : R2 := fun x y H Q => rI0 (fun i j => .bl (decide (i ≤ j))) x y H Q ∨ (∃ i j, x = .str i ∧ y = .str j ∧ Q (.bl (!decide (j.cps.toList < i.cps.toList))) H)
theorem op_leD : OpR X (compareOp .LtE) rLeD := op_le.or op_le_str
theorem o_le {K : PySem.W.Frag} : Op2 K rLeD fLe := by
  intro G δ σ F H x y d e z Q hK k hx hy ez q
  subst hK
  cases d with
  | int i =>
    have hx := hx.int
    subst hx
    cases e with
    | int j =>
      have hy := hy.int
      subst hy
      cases ez
      exact .inl ⟨i, j, rfl, rfl, q.fz k (.bl _)⟩
    | _ => cases ez
  | str i =>
    have hx := hx.str
    subst hx
    cases e with
    | str j =>
      have hy := hy.str
      subst hy
      cases ez
      exact .inr ⟨i, j, rfl, rfl, q.fz k (.bl _)⟩
    | _ => cases ez
  | _ => cases e <;> cases ez
theorem pd_lt (ha : PE X a (up C ta)) (hb : PE X b (up C tb)) : PE X (.Compare a [.Lt] [b] pos) (up C (dBin fLtI ta tb)) := pd_cmp op_lt o_cmpI ha hb (nomark _)
theorem pd_gt (ha : PE X a (up C ta)) (hb : PE X b (up C tb)) : PE X (.Compare a [.Gt] [b] pos) (up C (dBin fGt ta tb)) := pd_cmp op_gt o_cmpI ha hb (nomark _)
theorem pd_ge (ha : PE X a (up C ta)) (hb : PE X b (up C tb)) : PE X (.Compare a [.GtE] [b] pos) (up C (dBin fGe ta tb)) := pd_cmp op_ge o_cmpI ha hb (nomark _)
theorem pd_le (ha : PE X a (up C ta)) (hb : PE X b (up C tb)) : PE X (.Compare a [.LtE] [b] pos) (up C (dBin fLe ta tb)) := pd_cmp op_leD o_le ha hb (nomark _)
theorem pd_eq (hu : X.A.units + 64 < cLine) (ha : PE X a (up C ta)) (hb : PE X b (up C tb)) (hK : C.K = X.K := by rfl) : PE X (.Compare a [.Eq] [b] pos) (up C (dBin fEq ta tb)) := pe_weak (pe_cmpR (op_eqD hu) ha hb (nomark _)) (rfK_bin (r := rEqD) (fun _ => o_eq) hK)
theorem pd_ne (hu : X.A.units + 64 < cLine) (ha : PE X a (up C ta)) (hb : PE X b (up C tb)) (hK : C.K = X.K := by rfl) : PE X (.Compare a [.NotEq] [b] pos) (up C (dBin fNe ta tb)) := pe_weak (pe_cmpR (op_neD hu) ha hb (nomark _)) (rfK_bin (r := rNeD) (fun _ => o_ne) hK)
theorem pd_isN (ha : PE X a (up C ta)) (hb : PE X b (up C tb)) : PE X (.Compare a [.Is] [b] pos) (up C (dBin fIsN ta tb)) := pd_cmp op_isN o_isN ha hb (nomark _)
theorem pd_notN (ha : PE X a (up C ta)) (hb : PE X b (up C tb)) : PE X (.Compare a [.IsNot] [b] pos) (up C (dBin fNotN ta tb)) := pd_cmp op_notN o_notN ha hb (nomark _)
theorem ptd_lt (ha : PE X a (up C ta)) (hb : PE X b (up C tb)) : PT X (.Compare a [.Lt] [b] pos) (upT C (dTest (dBin fLtI ta tb))) := pdt_cmp op_lt o_cmpI ha hb (nomark _)
theorem ptd_gt (ha : PE X a (up C ta)) (hb : PE X b (up C tb)) : PT X (.Compare a [.Gt] [b] pos) (upT C (dTest (dBin fGt ta tb))) := pdt_cmp op_gt o_cmpI ha hb (nomark _)
theorem ptd_ge (ha : PE X a (up C ta)) (hb : PE X b (up C tb)) : PT X (.Compare a [.GtE] [b] pos) (upT C (dTest (dBin fGe ta tb))) := pdt_cmp op_ge o_cmpI ha hb (nomark _)
theorem ptd_le (ha : PE X a (up C ta)) (hb : PE X b (up C tb)) : PT X (.Compare a [.LtE] [b] pos) (upT C (dTest (dBin fLe ta tb))) := pdt_cmp op_leD o_le ha hb (nomark _)
theorem ptd_eq (hu : X.A.units + 64 < cLine) (ha : PE X a (up C ta)) (hb : PE X b (up C tb)) (hK : C.K = X.K := by rfl) : PT X (.Compare a [.Eq] [b] pos) (upT C (dTest (dBin fEq ta tb))) := pt_weak (pt_cmpR (op_eqD hu) ha hb (nomark _)) (rf_test (rfK_bin (r := rEqD) (fun _ => o_eq) hK))
theorem ptd_ne (hu : X.A.units + 64 < cLine) (ha : PE X a (up C ta)) (hb : PE X b (up C tb)) (hK : C.K = X.K := by rfl) : PT X (.Compare a [.NotEq] [b] pos) (upT C (dTest (dBin fNe ta tb))) := pt_weak (pt_cmpR (op_neD hu) ha hb (nomark _)) (rf_test (rfK_bin (r := rNeD) (fun _ => o_ne) hK))
theorem ptd_isN (ha : PE X a (up C ta)) (hb : PE X b (up C tb)) : PT X (.Compare a [.Is] [b] pos) (upT C (dTest (dBin fIsN ta tb))) := pdt_cmp op_isN o_isN ha hb (nomark _)
theorem ptd_notN (ha : PE X a (up C ta)) (hb : PE X b (up C tb)) : PT X (.Compare a [.IsNot] [b] pos) (upT C (dTest (dBin fNotN ta tb))) := pdt_cmp op_notN o_notN ha hb (nomark _)
/-- a chain of two -/
theorem pd_chain {op op' : CmpOp} {r r' : R2} {f g : D → D → Option Vl} (ho : OpR X (compareOp op) r) (o : Op2 C.K r f) (ho' : OpR X (compareOp op') r') (o' : Op2 C.K r' g) (ha : PE X a (up C ta)) (hb : PE X b (up C tb)) (hc : PE X c (up C tc))
    (hp : ∀ (ta tb tc : TE), PE X a ta → PE X b tb → PE X c tc → PE X (.Compare a [op, op'] [b, c] pos) (tChain r r' ta tb tc)) : PE X (.Compare a [op, op'] [b, c] pos) (up C (dChain f g ta tb tc)) := pe_weak (hp _ _ _ ha hb hc) (rf_chain o o')

/-! ### built-ins of one thing, of two -/
def B1 (K : PySem.W.Frag) (r : List V → Hp → VK → Prop) (f : D → Option Vl) : Prop := ∀ (G : Ct) (δ : DS) (σ : L2.St) (F H : Hp) (x : V) (d : D) (z : Vl) (Q : VK), G.K = K → St1 G δ σ F H → Vw K F H x d → f d = some z → Res G δ σ F H z Q → r [x] H Q
def B2 (K : PySem.W.Frag) (r : List V → Hp → VK → Prop) (f : D → D → Option Vl) : Prop := ∀ (G : Ct) (δ : DS) (σ : L2.St) (F H : Hp) (x y : V) (d e : D) (z : Vl) (Q : VK), G.K = K → St1 G δ σ F H → Vw K F H x d → Vw K F H y e → f d e = some z → Res G δ σ F H z Q → r [x, y] H Q
theorem rf_b1 {r : List V → Hp → VK → Prop} {f : D → Option Vl} (o : B1 C.K r f) : ∀ σ H Q, up C (dUn f ta) σ H Q → tCB r (tCons (up C ta) tNil) σ H Q := fun σ H Q ⟨G, δ, F, hC, k, h⟩ => by
  subst hC
  refine ⟨G, δ, F, rfl, k, finA_bind h fun x δ1 v F1 H1 k1 g1 w1 h1 => ?_⟩
  obtain ⟨F2, k2, g2, w2⟩ := k1.freeze w1
  obtain ⟨d, z, e1, e3, q⟩ := lift1_fin (finA_mono h1 g2)
  exact o G δ1 σ F2 H1 v d z Q rfl k2 (k2.view w2 e1) e3 (q H1)
theorem rf_b2 {r : List V → Hp → VK → Prop} {f : D → D → Option Vl} (o : B2 C.K r f) : ∀ σ H Q, up C (dBin f ta tb) σ H Q → tCB r (tCons (up C ta) (tCons (up C tb) tNil)) σ H Q := fun σ H Q ⟨G, δ, F, hC, k, h⟩ => by
  subst hC
  refine ⟨G, δ, F, rfl, k, finA_bind h fun x δ1 v F1 H1 k1 g1 w1 h1 => ?_⟩
  obtain ⟨F2, k2, g2, w2⟩ := k1.freeze w1
  refine ⟨G, δ1, F2, rfl, k2, finA_bind (finA_mono h1 g2) fun y δ2 u F3 H3 k3 g3 w3 h3 => ?_⟩
  obtain ⟨F4, k4, g4, w4⟩ := k3.freeze w3
  obtain ⟨d, e, z, e1, e2, e3, q⟩ := lift2_fin (finA_mono h3 g4)
  have w2' : VlOk G δ2 σ F4 H3 v (fzT x) := w2.keep (fzT_stays e1) (g3.trans g4)
  exact o G δ2 σ F4 H3 v u d e z Q rfl k4 (k4.view w2' e1) (k4.view w4 e2) e3 (q H3)
def fLen : D → Option Vl
  | .list ds => some (.fz (.int ds.length))
  | .tuple ds => some (.fz (.int ds.length))
  | .dict [(.none, .list ds)] => some (.fz (.int ds.length))
  | .str z => okO (small z.length) (some (.fz (.int z.length)))
  | _ => none
def rLen (K : PySem.W.Frag) : List V → Hp → VK → Prop := fun xs H Q => ∃ x n, xs = [x] ∧ LenV K x H n ∧ Q (.int n) H
theorem b_len {K : PySem.W.Frag} : B1 K (rLen K) fLen := by
  intro G δ σ F H x d z Q hK k hx ez q
  subst hK
  cases d with
  | list ds =>
    obtain ⟨p, vs, rfl, h1, h2⟩ := hx.list k.fh
    cases ez
    rw [← dpa_len h2] at q
    exact ⟨_, _, rfl, .inl ⟨vs, SqL.of h1, rfl⟩, q.fz k (.int _)⟩
  | tuple ds =>
    obtain ⟨p, vs, rfl, h1, h2⟩ := hx.tup
    cases ez
    rw [← dpa_len h2] at q
    exact ⟨_, _, rfl, .inr ⟨vs, SqT.of (k.fh _ _ h1), rfl⟩, q.fz k (.int _)⟩
  | str y =>
    have hx := hx.str
    subst hx
    obtain ⟨e1, e2⟩ := okO_some ez
    cases e2
    exact ⟨_, _, rfl, ⟨small_line e1, rfl⟩, q.fz k (.int _)⟩
  | dict kvs =>
    obtain ⟨p, ns, rfl, rfl, h1⟩ := hx.scr (fun ks ds z => by subst z; cases ez) (fun x z => by subst z; cases ez) (fun z => by subst z; cases ez)
    cases ez
    refine ⟨_, _, rfl, .inl ⟨_, same_l k.fh h1, rfl⟩, ?_⟩
    rw [List.length_map] at q ⊢
    exact q.fz k (.int _)
  | _ => cases ez
theorem pd_len {p : Pos} (hm : X.mg "len" = none) (ha : PE X e (up C ta)) (hK : C.K = X.K := by rfl) (hcall : ∀ (r : List V → Hp → VK → Prop) (te : TE), X.mg "len" = none → CallR X (.builtin "len") r → PE X e te → PE X (.Call (.Name "len" p) [e] [] pos) (tCB r (tCons te tNil)) := by exact fun _ _ hm0 h1 h2 => pe_callB h1 (by rfl) hm0 (by decide +kernel) (pa_cons h2 pa_nil)) :
    PE X (.Call (.Name "len" p) [e] [] pos) (up C (dUn fLen ta)) := pe_weak (hcall _ _ hm call_len ha) (by rw [← hK]; exact rf_b1 b_len)
/-- int(n), int(flag) -/
def fInt : D → Option Vl
  | .int i => some (.fz (.int i))
  | .bool b => some (.fz (.int (if b then 1 else 0)))
  | _ => none
def rInt : List V → Hp → VK → Prop := fun xs H Q => (∃ i, xs = [.int i] ∧ Q (.int i) H) ∨ ∃ k, xs = [.bl k] ∧ Q (.int (if k then 1 else 0)) H
theorem b_int {K : PySem.W.Frag} : B1 K rInt fInt := by
  intro G δ σ F H x d z Q hK k hx ez q
  subst hK
  cases d with
  | int i =>
    have hx := hx.int
    subst hx
    cases ez
    exact .inl ⟨i, rfl, q.fz k (.int _)⟩
  | bool i =>
    have hx := hx.bl
    subst hx
    cases ez
    exact .inr ⟨i, rfl, q.fz k (.int _)⟩
  | _ => cases ez
theorem pd_int1 {p : Pos} (hm : X.mg "int" = none) (ha : PE X e (up C ta)) (hcall : ∀ (r : List V → Hp → VK → Prop) (te : TE), X.mg "int" = none → CallR X (.type "int") r → PE X e te → PE X (.Call (.Name "int" p) [e] [] pos) (tCB r (tCons te tNil)) := by exact fun _ _ hm0 h1 h2 => pe_callTy h1 (by rfl) hm0 (by decide +kernel) (pa_cons h2 pa_nil)) :
    PE X (.Call (.Name "int" p) [e] [] pos) (up C (dUn fInt ta)) := pe_weak (hcall _ _ hm call_int1 ha) (rf_b1 b_int)
/-- list(..), tuple(..) -/
def fList : D → Option Vl
  | .list ds => some (.own (.lst ds))
  | .tuple ds => some (.own (.lst ds))
  | .dict [(.none, .list ds)] => some (.own (.lst ds))
  | _ => none
def rList (K : PySem.W.Frag) : List V → Hp → VK → Prop := fun xs H Q => ∃ p ys, xs = [.ref p] ∧ (SqL K H p ys ∨ SqT K H p ys) ∧ ∀ l, H l = none → Q (.ref l) (upd H l (.lst ys))
theorem b_list {K : PySem.W.Frag} : B1 K (rList K) fList := by
  intro G δ σ F H x d z Q hK k hx ez q
  subst hK
  cases d with
  | list ds =>
    obtain ⟨p, vs, rfl, h1, h2⟩ := hx.list k.fh
    cases ez
    exact ⟨_, _, rfl, .inl (SqL.of h1), q.newL k h2⟩
  | tuple ds =>
    obtain ⟨p, vs, rfl, h1, h2⟩ := hx.tup
    cases ez
    exact ⟨_, _, rfl, .inr (SqT.of (k.fh _ _ h1)), q.newL k h2⟩
  | dict kvs =>
    obtain ⟨p, ns, rfl, rfl, h1⟩ := hx.scr (fun ks ds z => by subst z; cases ez) (fun x z => by subst z; cases ez) (fun z => by subst z; cases ez)
    cases ez
    exact ⟨_, _, rfl, .inl (same_l k.fh h1), q.newL k (dpa_ints ns)⟩
  | _ => cases ez
theorem pd_list {p : Pos} (hm : X.mg "list" = none) (ha : PE X e (up C ta)) (hK : C.K = X.K := by rfl) (hcall : ∀ (r : List V → Hp → VK → Prop) (te : TE), X.mg "list" = none → CallR X (.type "list") r → PE X e te → PE X (.Call (.Name "list" p) [e] [] pos) (tCB r (tCons te tNil)) := by exact fun _ _ hm0 h1 h2 => pe_callTy h1 (by rfl) hm0 (by decide +kernel) (pa_cons h2 pa_nil)) :
    PE X (.Call (.Name "list" p) [e] [] pos) (up C (dUn fList ta)) := pe_weak (hcall _ _ hm call_list_of ha) (by rw [← hK]; exact rf_b1 b_list)
def fTuple : D → Option Vl
  | .list ds => some (.fz (.tuple ds))
  | .tuple ds => some (.fz (.tuple ds))
  | _ => none
def rTuple (K : PySem.W.Frag) : List V → Hp → VK → Prop := fun xs H Q => ∃ p ys, xs = [.ref p] ∧ ((SqL K H p ys ∧ ∀ l, H l = none → Q (.ref l) (upd H l (.tup ys))) ∨ (SqT K H p ys ∧ Q (.ref p) H))
theorem b_tuple {K : PySem.W.Frag} : B1 K (rTuple K) fTuple := by
  intro G δ σ F H x d z Q hK k hx ez q
  subst hK
  cases d with
  | list ds =>
    obtain ⟨p, vs, rfl, h1, h2⟩ := hx.list k.fh
    cases ez
    exact ⟨_, _, rfl, .inl ⟨SqL.of h1, q.newT k h2⟩⟩
  | tuple ds =>
    obtain ⟨p, vs, rfl, h1, h2⟩ := hx.tup
    cases ez
    exact ⟨_, _, rfl, .inr ⟨SqT.of (k.fh _ _ h1), q.fz k (.tup h1 h2)⟩⟩
  | _ => cases ez
theorem pd_tuple {p : Pos} (hm : X.mg "tuple" = none) (ha : PE X e (up C ta)) (hK : C.K = X.K := by rfl) (hcall : ∀ (r : List V → Hp → VK → Prop) (te : TE), X.mg "tuple" = none → CallR X (.type "tuple") r → PE X e te → PE X (.Call (.Name "tuple" p) [e] [] pos) (tCB r (tCons te tNil)) := by exact fun _ _ hm0 h1 h2 => pe_callTy h1 (by rfl) hm0 (by decide +kernel) (pa_cons h2 pa_nil)) :
    PE X (.Call (.Name "tuple" p) [e] [] pos) (up C (dUn fTuple ta)) := pe_weak (hcall _ _ hm call_tuple_of ha) (by rw [← hK]; exact rf_b1 b_tuple)
/-- max, min of two ints -/
def fMax2 : D → D → Option Vl
  | .int i, .int j => some (.fz (.int (if j > i then j else i)))
  | _, _ => none
def fMin2 : D → D → Option Vl
  | .int i, .int j => some (.fz (.int (if j < i then j else i)))
  | _, _ => none
def rMax2 : List V → Hp → VK → Prop := fun xs H Q => ∃ i j, xs = [.int i, .int j] ∧ Q (.int (if j > i then j else i)) H
def rMin2 : List V → Hp → VK → Prop := fun xs H Q => ∃ i j, xs = [.int i, .int j] ∧ Q (.int (if j < i then j else i)) H
theorem b_max2 {K : PySem.W.Frag} : B2 K rMax2 fMax2 := by
  intro G δ σ F H x y d e z Q hK k hx hy ez q
  subst hK
  cases d with
  | int i => cases e with
    | int j =>
      have hx := hx.int
      have hy := hy.int
      subst hx hy
      cases ez
      exact ⟨i, j, rfl, q.fz k (.int _)⟩
    | _ => cases ez
  | _ => cases e <;> cases ez
theorem b_min2 {K : PySem.W.Frag} : B2 K rMin2 fMin2 := by
  intro G δ σ F H x y d e z Q hK k hx hy ez q
  subst hK
  cases d with
  | int i => cases e with
    | int j =>
      have hx := hx.int
      have hy := hy.int
      subst hx hy
      cases ez
      exact ⟨i, j, rfl, q.fz k (.int _)⟩
    | _ => cases ez
  | _ => cases e <;> cases ez
theorem pd_max2 {p : Pos} (hm : X.mg "max" = none) (ha : PE X a (up C ta)) (hb : PE X b (up C tb)) (hc : X.calm = true := by rfl) (hcall : ∀ (r : List V → Hp → VK → Prop) (te te' : TE), X.mg "max" = none → CallR X (.builtin "max") r → PE X a te → PE X b te' → PE X (.Call (.Name "max" p) [a, b] [] pos) (tCB r (tCons te (tCons te' tNil))) := by exact fun _ _ _ hm0 h1 h2 h3 => pe_callB h1 (by rfl) hm0 (by decide +kernel) (pa_cons h2 (pa_cons h3 pa_nil))) :
    PE X (.Call (.Name "max" p) [a, b] [] pos) (up C (dBin fMax2 ta tb)) := pe_weak (hcall _ _ _ hm (call_max2 hc) ha hb) (rf_b2 b_max2)
theorem pd_min2 {p : Pos} (hm : X.mg "min" = none) (ha : PE X a (up C ta)) (hb : PE X b (up C tb)) (hc : X.calm = true := by rfl) (hcall : ∀ (r : List V → Hp → VK → Prop) (te te' : TE), X.mg "min" = none → CallR X (.builtin "min") r → PE X a te → PE X b te' → PE X (.Call (.Name "min" p) [a, b] [] pos) (tCB r (tCons te (tCons te' tNil))) := by exact fun _ _ _ hm0 h1 h2 h3 => pe_callB h1 (by rfl) hm0 (by decide +kernel) (pa_cons h2 (pa_cons h3 pa_nil))) :
    PE X (.Call (.Name "min" p) [a, b] [] pos) (up C (dBin fMin2 ta tb)) := pe_weak (hcall _ _ _ hm (call_min2 hc) ha hb) (rf_b2 b_min2)

/-! ### isinstance of built-in kinds -/
def tyD : D → String
  | .none => "NoneType" | .bool _ => "bool" | .int _ => "int" | .str _ => "str" | .list _ => "list" | .tuple _ => "tuple" | .dict [(.bool true, _), _] => "dict" | .dict _ => "list"
def isTS (t T : String) : Bool := t == T || (t == "bool" && T == "int")
def isT (d : D) (T : String) : Bool := isTS (tyD d) T
theorem kitAll : ∀ t ∈ ["NoneType", "bool", "int", "str", "list", "tuple", "dict"], ∀ T ∈ ["int", "bool", "str", "list", "tuple"], kitB t T = some (isTS t T) := by decide +kernel
/-- a caught error -/
def excB : D → Bool
  | .dict [(.str _, _)] => true
  | _ => false
theorem ty_of {K : PySem.W.Frag} {F H : Hp} {v : V} {d : D} (h : Vw K F H v d) (fh : Same F H) (hn : (!excB d) = true) : TyX K H v (.type (tyD d)) := by
  rcases h with h | ⟨p, vs, ds, rfl, rfl, h1, h2⟩
  · cases h with
    | non => exact .base .non
    | bl b => exact .base (.bl b)
    | int i => exact .base (.int i)
    | str x => exact .base (.str x)
    | lst a b =>
      exact .base (.lst (fh _ _ a))
    | tup a b =>
      exact .base (.tup (fh _ _ a))
    | dct a b => exact .fDict (fh _ _ a)
    | exc x a => cases hn
    | opq a => exact .base (.dT (fh _ _ a))
    | scr a =>
      rcases same_l fh a with (q | ⟨o, q⟩) | ⟨o, its, n, hk, hc, _⟩
      · exact .base (.lst q)
      · exact .base (.frz q)
      · exact .kList hk hc
  · exact .base (.lst h1)
def okTy (T : String) : Bool := T == "int" || T == "bool" || T == "str" || T == "list" || T == "tuple"
theorem kit_d {K : PySem.W.Frag} (d : D) {T : String} (h : okTy T = true) : PySem.W.kitOne K (.type (tyD d)) (.type T) = some (isT d T) := by
  have hT : T ∈ ["int", "bool", "str", "list", "tuple"] := by
    unfold okTy at h
    simp only [Bool.or_eq_true, beq_iff_eq] at h
    rcases h with (((h | h) | h) | h) | h <;> simp [h]
  exact kit_ty (kitAll _ (by unfold tyD; split <;> simp) _ hT)
def fIsi (T : String) (d : D) : Option Vl := okO (!excB d) (some (.fz (.bool (isT d T))))
def fIsiT (Ts : List String) (d : D) : Option Vl := okO (!excB d) (some (.fz (.bool (Ts.any (isT d)))))
def rIsi1 (K : PySem.W.Frag) (T : String) : V → Hp → VK → Prop := fun x H Q => rIsi K [x, .ty T] H Q
theorem o_isi {K : PySem.W.Frag} {T : String} (hT : okTy T = true) : Op1 K (rIsi1 K T) (fIsi T) := by
  intro G δ σ F H x d z Q hK k hx ez q
  subst hK
  obtain ⟨e1, e2⟩ := okO_some ez
  cases e2
  exact ⟨x, .ty T, _, _, _, rfl, .ty T, ty_of hx k.fh e1, kit_d d hT, q.fz k (.bl _)⟩
/-- isinstance(x, T) -/
theorem pd_isi {T : Str} {U : String} {p p2 : Pos} (hm : X.mg "isinstance" = none) (hmT : X.mg T = none) (ha : PE X e (up C ta)) (hT : bootBuiltins T = some (.type U) := by decide +kernel) (hU : okTy U = true := by rfl) (hK : C.K = X.K := by rfl)
    (hcall : ∀ (r : List V → Hp → VK → Prop) (te : TE), X.mg "isinstance" = none → X.mg T = none → bootBuiltins T = some (.type U) → CallR X (.builtin "isinstance") r → PE X e te → PE X (.Call (.Name "isinstance" p) [e, .Name T p2] [] pos) (tCB r (tCons te (tCons (tC (.ty U)) tNil))) := by exact fun _ _ hm0 hm1 hm2 h1 h2 => pe_callB h1 (by rfl) hm0 (by decide +kernel) (pa_cons h2 (pa_cons (pe_bltn (by rfl) hm1 hm2 rfl) pa_nil))) :
    PE X (.Call (.Name "isinstance" p) [e, .Name T p2] [] pos) (up C (dUn (fIsi U) ta)) := pe_weak (hcall _ _ hm hmT hT call_isi ha) (fun σ H Q h => by
      rw [← hK]
      exact rf_un (o_isi hU) σ H Q h)
theorem kit_any {K : PySem.W.Frag} (d : D) : ∀ {Ts : List String}, Ts.all okTy = true → PySem.W.kitAny K (.type (tyD d)) (Ts.map Value.type) = some (Ts.any (isT d))
  | [], _ => kitAny_nil
  | T :: Ts, h => by
    have h : (okTy T && Ts.all okTy) = true := h
    rw [Bool.and_eq_true] at h
    refine kitAny_cons (kit_d d h.1) (fun e => ?_) fun e => ?_
    · rw [kit_any d h.2]
      show _ = some (isT d T || Ts.any (isT d))
      rw [e]
      rfl
    · show (isT d T || Ts.any (isT d)) = true
      rw [e]
      rfl
theorem cls_all : ∀ Ts : List String, Paired ClsV (Ts.map V.ty) (Ts.map Value.type)
  | [] => .nil
  | T :: Ts => .cons (.ty T) (cls_all Ts)
/-- isinstance(x, (T1, T2)) -/
def tTys (Ts : List String) : TE := fun _ H Q => ∀ p, H p = none → Q (.ref p) (upd H p (.tup (Ts.map V.ty)))
theorem rf_isiT {Ts : List String} (hT : Ts.all okTy = true) : ∀ σ H Q, up C (dUn (fIsiT Ts) ta) σ H Q → tCB (rIsiT C.K) (tCons (up C ta) (tCons (tTys Ts) tNil)) σ H Q := fun σ H Q ⟨G, δ, F, hC, k, h⟩ => by
  subst hC
  refine ⟨G, δ, F, rfl, k, finA_bind h fun x δ1 v F1 H1 k1 g1 w1 h1 => ?_⟩
  obtain ⟨F2, k2, g2, w2⟩ := k1.freeze w1
  obtain ⟨d, z, e1, e3, q⟩ := lift1_fin (finA_mono h1 g2)
  obtain ⟨e4, e5⟩ := okO_some e3
  cases e5
  intro p hp
  have k3 := k2.newOwn (o := .tup (Ts.map V.ty)) hp
  have hx := k2.view w2 e1
  have hx' : Vw G.K F2 (upd H1 p (.tup (Ts.map V.ty))) v d := hx.mono (Same.refl F2) fun p' vs _ e => by rw [upd_ne (ne_of_none e hp)]; exact e
  exact ⟨v, p, _, _, _, _, rfl, upd_same, cls_all Ts, ty_of hx' k3.fh e4, kit_any d hT, Res.fz (q _) k3 (.bl _)⟩
theorem pd_isiT {Ts : List String} {es : Expr} {p : Pos} (hm : X.mg "isinstance" = none) (ha : PE X e (up C ta)) (ht : PE X es (tTys Ts)) (hU : Ts.all okTy = true := by rfl) (hK : C.K = X.K := by rfl)
    (hcall : ∀ (r : List V → Hp → VK → Prop) (te tt : TE), X.mg "isinstance" = none → CallR X (.builtin "isinstance") r → PE X e te → PE X es tt → PE X (.Call (.Name "isinstance" p) [e, es] [] pos) (tCB r (tCons te (tCons tt tNil))) := by exact fun _ _ _ hm0 h1 h2 h3 => pe_callB h1 (by rfl) hm0 (by decide +kernel) (pa_cons h2 (pa_cons h3 pa_nil))) :
    PE X (.Call (.Name "isinstance" p) [e, es] [] pos) (up C (dUn (fIsiT Ts) ta)) := pe_weak (hcall _ _ _ hm call_isiT ha ht) (by rw [← hK]; exact rf_isiT hU)
theorem pe_tys2 {T1 T2 : Str} {U1 U2 : String} {p1 p2 : Pos} {x1 : Nat} (h1 : X.mg T1 = none) (h2 : X.mg T2 = none) (hT1 : bootBuiltins T1 = some (.type U1) := by decide +kernel) (hT2 : bootBuiltins T2 = some (.type U2) := by decide +kernel)
    (hp : X.mg T1 = none → X.mg T2 = none → bootBuiltins T1 = some (.type U1) → bootBuiltins T2 = some (.type U2) → PA X [.Name T1 p1, .Name T2 p2] (tCons (tC (.ty U1)) (tCons (tC (.ty U2)) tNil)) := by exact fun a1 a2 a3 a4 => pa_cons (pe_bltn (by rfl) a1 a3 rfl) (pa_cons (pe_bltn (by rfl) a2 a4 rfl) pa_nil)) :
    PE X (.Tuple [.Name T1 p1, .Name T2 p2] x1 pos) (tTys [U1, U2]) := pe_weak (pe_tup (hp h1 h2 hT1 hT2)) fun σ H Q h => ⟨by show 2 ≤ sizeLine; decide, h⟩
end
end DL

set_option Elab.async false
set_option linter.all false
set_option maxRecDepth 100000
set_option autoImplicit false
namespace DL
open PySem PySem.Spec PyProof.Rows L2
variable [Tabs]
set_option maxHeartbeats 1000000 in
theorem meets_enum1 {v : Value} {o : Obj} {H : Heap → Prop} (B : Begins v o H) :
    Meets (Builtin.«enumerate.__new__» ⟨[.type "enumerate", v], []⟩) (fun _ R s => H s.heap ∧
      R (.ok (.ret (.ref (s.heap.push o).objs.size))) { s with heap := (s.heap.push o).push { cls := .type "enumerate", data := .fields #[.none, .bool false, .ref s.heap.objs.size, rawInt 0, .none, .none] } }) :=
  .of_wp fun prog w A R s h => by
    obtain ⟨hp, g, d, tk, os⟩ := s; obtain ⟨h1, h⟩ := h
    have hsub := sub_enumerate
    have q1 : ∀ {A' : Around} {E : Value → Shared → Prop} {Q : Value → Shared → Prop}, Q (.ref hp.objs.size) ⟨hp.push o, g, d, tk, os⟩ → wpAny (model prog w) A' (pyIter v) Q E ⟨hp, g, d, tk, os⟩ :=
      fun q => B.iter prog w _ _ ⟨hp, g, d, tk, os⟩ _ h1 q
    wp_walk using q1
    refine wpAny_stack_any fun st => wpAny_pure ?_
    split
    · rename_i c _ _ _ _ _
      cases (c == Value.type "enumerate")
      · wp_walk using q1
        exact ⟨_, rfl, h⟩
      · wp_walk using q1
        exact ⟨_, rfl, h⟩
    · wp_walk using q1
      exact ⟨_, rfl, h⟩
theorem enum_begins1 {prog : Program} {w : World} {A : Around} {E : Value → Shared → Prop} {s : Shared} {v : Value} {o : Obj} {H : Heap → Prop} {Q : Value → Shared → Prop} (B : Begins v o H) (h1 : H s.heap)
    (h : ∀ h', IsEnum h' (s.heap.objs.size + 1) s.heap.objs.size 0 .none → h'.get? s.heap.objs.size = some o → h'.objs.size = s.heap.objs.size + 2 →
      (∀ b o, s.heap.get? b = some o → h'.get? b = some o) → Q (.ref (s.heap.objs.size + 1)) { s with heap := h' }) :
    wpAny (model prog w) A (call (.type "enumerate") [v]) Q E s := by
  refine callType_new F.called_enumerate (by decide) (F.typeCall_enumerate_1 _) (F.newCall_enumerate_1 _) (fun obj => F.args_object_init_2 obj _) F.entry_enumerate_new
    (meets_enum1 B) ⟨h1, ?_⟩
  have hz : (s.heap.push o).objs.size = s.heap.objs.size + 1 := Heap.size_push ..
  show _ ∧ _
  rw [hz]
  have he : IsEnum ((s.heap.push o).push { cls := .type "enumerate", data := .fields #[.none, .bool false, .ref s.heap.objs.size, rawInt 0, .none, .none] }) (s.heap.objs.size + 1) s.heap.objs.size 0 .none := by
    have := Heap.get?_push_size (s.heap.push o) (o := { cls := .type "enumerate", data := .fields #[.none, .bool false, .ref s.heap.objs.size, rawInt 0, .none, .none] }) rfl
    rw [hz] at this; exact this
  refine ⟨⟨_, he, rfl⟩, h _ he (Heap.get?_push_of_some _ (Heap.get?_push_size _ B.free)) (by rw [Heap.size_push, hz]) fun b o x => Heap.get?_push_of_some _ (Heap.get?_push_of_some _ x)⟩
/-- enumerate over a tuple -/
def IteT (K : PySem.W.Frag) (a : Addr) : It :=
  ⟨fun i H => ∃ (xs : List V) (x : V), SqT K H a xs ∧ xs[i]? = some x, fun i H v H' => ∃ T x, v = .ref T ∧ H T = none ∧ H' = upd H T (.tup [.int (i : Nat), x]) ∧ ∀ xs, SqT K H a xs → xs[i]? = some x, fun i H => ∃ xs : List V, SqT K H a xs ∧ i = xs.length⟩
theorem turn_enumT {P : Program} {w : World} {K : PySem.W.Frag} {elts : List Expr} {kk : Nat} {tpos : Pos} (a e it : Addr) (hat : a ≠ it) :
    Turn P w K (.Tuple elts kk tpos) (IteT K a) [e, it] e (fun i h => (∃ old, IsEnum h e it ((i : Nat) : Int) old) ∧ h.IsTupleIter it a i ∧ e ≠ it ∧ e ≠ a) where
  mem := by simp
  obj := fun i h st b hb => by
    obtain ⟨⟨old, he⟩, ⟨o, ho, hc, hd⟩, _⟩ := st
    have e' : b = e ∨ b = it := by simpa using hb
    rcases e' with z | z
    · rw [z]; exact ⟨_, he, fun v q => nomatch q⟩
    · rw [z]; exact ⟨o, ho, fun v q => by rw [hd] at q; cases q⟩
  keep := fun i h h' st k => let ⟨⟨old, he⟩, hi, hne⟩ := st; ⟨⟨old, k e (by simp) _ he⟩, hi.at fun o q => k it (by simp) o q, hne⟩
  item := by
    intro X hP hw hK hc i pins s σ H E I hf st hg
    subst hP hw hK
    obtain ⟨⟨old, he⟩, hit, hne, hea⟩ := st
    obtain ⟨xs, x, hq, hx⟩ := hg
    obtain ⟨its, rv, p, hz⟩ := I.tuple hq
    obtain ⟨u, hu, ru⟩ := rv.get hx
    have hel : e < s.heap.objs.size := Heap.lt_size he
    have hil : it < s.heap.objs.size := by obtain ⟨_, q, _⟩ := hit; exact Heap.lt_size q
    have hd : X.A.in1.handled = none := I.ok.hd hc
    have D := Draws.tuple (prog := X.prog) (w := X.w) hd it a hat its.toArray
    have hlt : i < its.toArray.size := by
      have := (List.getElem?_eq_some_iff.mp hu).1
      simpa using this
    refine wpAny_pyNext_enum_itemD D he ⟨hit, p⟩ hlt hne (by simp [hne, hea]) fun u' h' tk hPx ho hit' hT hsz hk => ?_
    have hPx : its.toArray[i]? = some u' := hPx
    have eu : u' = u := by
      rw [show its.toArray[i]? = its[i]? by simp, hu] at hPx
      exact (Option.some.inj hPx).symm
    subst eu
    refine ⟨_, rfl, wpAny_letOwnedTupleGo_enum (s := { s with heap := h', toks := tk + 1 }) ho fun h'' he' sb => ?_⟩
    have hT2 : h''.get? s.heap.objs.size = some { cls := .type "tuple", data := .seq #[.int i tk, u'] } := (sb.2 _ (Nat.ne_of_gt hel)).trans hT
    have new : ObjOk X.prog X.w (upd H s.heap.objs.size (.tup [.int (i : Nat), x])) h'' s.heap.objs.size (.tup [.int (i : Nat), x]) :=
      ⟨by show 2 ≤ sizeLine; decide, [.int i tk, u'], .cons ⟨_, rfl⟩ (.cons ru .nil), ⟨_, hT2, rfl, _, rfl⟩⟩
    have I1 : Inv X pins σ (upd H s.heap.objs.size (.tup [.int (i : Nat), x])) { s with heap := h'', toks := tk + 1 } :=
      I.turnedNew (ch := [e, it]) (fun b ob hb q => (sb.2 b (fun z => hb (by simp [z]))).trans (hk b ob (fun z => hb (by simp [z])) (fun z => hb (by simp [z])) q)) hf (Nat.le_refl _) new
    refine ⟨.ref s.heap.objs.size, _, I1, rfl, ⟨_, x, rfl, I.hok.fresh (Nat.le_refl _), rfl, fun ys hy => by rw [I.tuple_inj hy hq]; exact hx⟩, ⟨⟨u', ?_⟩, hit'.1.at fun o q => (sb.2 it (Ne.symm hne)).trans q, hne, hea⟩, fun b hb => ?_⟩
    · have e1 : ((i + 1 : Nat) : Int) = (i : Int) + 1 := by omega
      rw [e1]; exact he'
    · have hb' : b < s.heap.objs.size := by
        have e' : b = e ∨ b = it := by simpa using hb
        rcases e' with z | z
        · rw [z]; exact hel
        · rw [z]; exact hil
      rw [upd_ne (Nat.ne_of_lt hb')]
      exact (hf b hb).1
  done := by
    intro X hP hw hK hc i pins s σ H E I hf st hg
    subst hP hw hK
    obtain ⟨⟨old, he⟩, hit, hne, hea⟩ := st
    obtain ⟨xs, hq, hx⟩ := hg
    obtain ⟨its, rv, p, hz⟩ := I.tuple hq
    obtain ⟨f0, f1, f2, f3, f4, f5⟩ := hf it (by simp)
    have hl := rv.length
    have hd : X.A.in1.handled = none := I.ok.hd hc
    have D := Draws.tuple (prog := X.prog) (w := X.w) hd it a hat its.toArray
    refine wpAny_pyNext_enum_endD D he ⟨by rw [show its.toArray.size = i by rw [List.size_toArray, ← hl, hx]]; exact hit, p⟩ fun h' eb => ⟨rfl, I.turned (t' := s.toks) (fun b o hb q => eb b o hb q) f0 f1 f3 f4 f5⟩
  self := fun A i s Q E st h => let ⟨⟨_, he⟩, _⟩ := st; wpAny_pyIter_enum he h
/-- enumerate of a list or a tuple -/
def iEnumT (K : PySem.W.Frag) (ta : TA) : TI := fun σ H R => ta σ H fun vs H1 => ∃ a xs, vs = [.ref a] ∧ SqT K H1 a xs ∧ R (IteT K a) H1
theorem pi_enumT {X : Cx} {e : Expr} {ta : TA} {p pos tpos : Pos} {elts : List Expr} {kk : Nat} (hg : Gl X "enumerate") (hm : X.mg "enumerate" = none) (ha : PA X [e] ta) (hs : starEach [e] X.env = [(false, eval e X.env)] := by rfl) :
    PI X (.Tuple elts kk tpos) (.Call (.Name "enumerate" p) [e] [] pos) (iEnumT X.K ta) := by
  refine ⟨fun pins s σ H R I h => ?_⟩
  refine Call_ (ld_blt I hg hm boot_enumerate (PyProof.Rows.callWith_type1 (thn (ha.run pos pins s σ H _ I h) fun us s1 ⟨vs, H1, I1, r1, q1⟩ => ?_) hs rfl))
  obtain ⟨a, xs, ex, hq, q⟩ := q1
  subst ex
  cases r1 with
  | cons r rr =>
    cases rr
    cases r
    obtain ⟨its, rv, p', hz⟩ := I1.tuple hq
    have hal : a < s1.heap.objs.size := p'.lt
    refine enum_begins1 (begins_tuple a its.toArray) p' fun h' he hit hsz hk => wpAny_pyIter_enum he ?_
    have I2 : Inv X pins σ H1 { s1 with heap := h' } := I1.kept (t' := s1.toks) hk
    refine ⟨s1.heap.objs.size + 1, [s1.heap.objs.size + 1, s1.heap.objs.size], _, _, H1, rfl, I2, turn_enumT a (s1.heap.objs.size + 1) s1.heap.objs.size (Nat.ne_of_lt hal), ⟨⟨.none, he⟩, ⟨_, hit, rfl, rfl⟩, Nat.succ_ne_self _, Nat.ne_of_gt (Nat.lt_succ_of_lt hal)⟩, fun b hb => ?_, q⟩
    have e' : b = s1.heap.objs.size + 1 ∨ b = s1.heap.objs.size := by simpa using hb
    have hle : s1.heap.objs.size ≤ b := by
      rcases e' with z | z
      · rw [z]; exact Nat.le_add_right _ _
      · rw [z]; exact Nat.le_refl _
    exact I1.fpOk hle (I1.hok.fresh hle)
def enumD (ds : List D) : List D := (List.range ds.length).zipWith (fun (i : Nat) d => PyData.tuple [.int i, d]) ds
theorem enumD_get {ds : List D} {i : Nat} {d : D} (h : ds[i]? = some d) : (enumD ds)[i]? = some (.tuple [.int i, d]) := by
  unfold enumD
  have hi := (List.getElem?_eq_some_iff.mp h).1
  rw [List.getElem?_zipWith, List.getElem?_range hi, h]
theorem enumD_len (ds : List D) : (enumD ds).length = ds.length := by
  unfold enumD
  simp
theorem enumD_of {ds : List D} {i : Nat} {e : D} (h : (enumD ds)[i]? = some e) : ∃ d, ds[i]? = some d ∧ e = .tuple [.int i, d] := by
  have hi := (List.getElem?_eq_some_iff.mp h).1
  rw [enumD_len] at hi
  refine ⟨ds[i], List.getElem?_eq_getElem hi, ?_⟩
  rw [enumD_get (List.getElem?_eq_getElem hi)] at h
  exact (Option.some.inj h).symm
section
variable {X : Cx} {C : Cf} {e a b c l tg : Expr} {ta tb tc : De} {pos : Pos}
theorem it_enumL {K : PySem.W.Frag} {F : Hp} {p : Addr} {vs : List V} {ds : List D} (h : F p = some (.lst vs)) (w : DpAll K F vs ds) : ItOk K (Ite K p) F (enumD ds) := fun F2 H2 f2 h2 i => by
  have hq : SqL K H2 p vs := SqL.of ((f2.trans h2) _ _ h)
  refine ⟨fun d hd => ?_, fun hi => ⟨vs, hq, by rw [dpa_len w, hi, enumD_len]; exact Nat.le_refl _⟩⟩
  obtain ⟨d', hd', rfl⟩ := enumD_of hd
  obtain ⟨v, e1, e2⟩ := dpa_get w hd'
  refine ⟨⟨vs, v, hq, e1⟩, fun x H3 y => ?_⟩
  obtain ⟨T, x', rfl, hT, rfl, y⟩ := y
  have ex : v = x' := Option.some.inj (e1.symm.trans (y vs hq))
  subst ex
  have hF : F2 T = none := h2.free hT
  refine ⟨upd F2 T (.tup [.int (i : Nat), v]), same_upd hF, fun b u e => ?_, same_upd hT, fun b z => ?_, .tup upd_same (.cons (.int _) (.cons (dp_mono (f2.trans (same_upd hF)) _ _ e2) .nil))⟩
  · by_cases hb : b = T
    · subst hb; rw [upd_same] at e ⊢; exact e
    · rw [upd_ne hb] at e ⊢; exact h2 _ _ e
  · by_cases hb : b = T
    · subst hb; exact .inr hT
    · rw [upd_ne hb] at z; exact .inl z
theorem it_enumT {K : PySem.W.Frag} {F : Hp} {p : Addr} {vs : List V} {ds : List D} (h : F p = some (.tup vs)) (w : DpAll K F vs ds) : ItOk K (IteT K p) F (enumD ds) := fun F2 H2 f2 h2 i => by
  have hq : SqT K H2 p vs := SqT.of ((f2.trans h2) _ _ h)
  refine ⟨fun d hd => ?_, fun hi => ⟨vs, hq, by rw [dpa_len w, hi, enumD_len]⟩⟩
  obtain ⟨d', hd', rfl⟩ := enumD_of hd
  obtain ⟨v, e1, e2⟩ := dpa_get w hd'
  refine ⟨⟨vs, v, hq, e1⟩, fun x H3 y => ?_⟩
  obtain ⟨T, x', rfl, hT, rfl, y⟩ := y
  have ex : v = x' := Option.some.inj (e1.symm.trans (y vs hq))
  subst ex
  have hF : F2 T = none := h2.free hT
  refine ⟨upd F2 T (.tup [.int (i : Nat), v]), same_upd hF, fun b u e => ?_, same_upd hT, fun b z => ?_, .tup upd_same (.cons (.int _) (.cons (dp_mono (f2.trans (same_upd hF)) _ _ e2) .nil))⟩
  · by_cases hb : b = T
    · subst hb; rw [upd_same] at e ⊢; exact e
    · rw [upd_ne hb] at e ⊢; exact h2 _ _ e
  · by_cases hb : b = T
    · subst hb; exact .inr hT
    · rw [upd_ne hb] at z; exact .inl z
def enumOf (ds : List D) (δ : DS) : R (List D) := match ds with
  | [.list l] => .ok (enumD l) δ
  | [.tuple l] => .ok (enumD l) δ
  | _ => .bad
def dEnum (l : Dl) : Di := fun δ => (l δ).bind enumOf
theorem pdi_enum {tl : Dl} {p tpos : Pos} {elts : List Expr} {kk : Nat} (hm : X.mg "enumerate" = none) (ha : PA X [e] (upL C tl)) (hg : Gl X "enumerate" := by rfl) (hK : C.K = X.K := by rfl) (hs : starEach [e] X.env = [(false, eval e X.env)] := by rfl) :
    PI X (.Tuple elts kk tpos) (.Call (.Name "enumerate" p) [e] [] pos) (upI C (dEnum tl)) := by
  refine pi_weak (pi_or (pi_enum hg hm ha hs) (pi_enumT hg hm ha hs)) fun σ H R ⟨G, δ, F, hC, k, h⟩ => ?_
  subst hC
  unfold dEnum at h
  cases e1 : tl δ with
  | bad => rw [e1] at h; exact h.elim
  | ex cc s =>
    rw [e1] at h
    refine .inl ⟨G, δ, F, rfl, k, ?_⟩
    rw [e1]
    exact h
  | ok ds δ1 =>
    rw [e1] at h
    have h : finA G (WI G) (enumOf ds δ1) σ F R := h
    cases ds with
    | nil => exact h.elim
    | cons d ds => cases ds with
      | cons _ _ => cases d <;> exact h.elim
      | nil => cases d with
        | list l =>
          refine .inl ⟨G, δ, F, rfl, k, ?_⟩
          rw [e1]
          intro vs F1 H1 k1 g1 w1
          have w1 : DpAll G.K F1 vs [.list l] := w1
          cases w1 with
          | cons w ws =>
            cases ws
            cases w with
            | @lst p vs _ a b => exact ⟨p, vs, rfl, SqL.of (k1.fh _ _ a), h _ F1 H1 k1 g1 (by rw [← hK]; exact it_enumL a b)⟩
        | tuple l =>
          refine .inr ⟨G, δ, F, rfl, k, ?_⟩
          rw [e1]
          intro vs F1 H1 k1 g1 w1
          have w1 : DpAll G.K F1 vs [.tuple l] := w1
          cases w1 with
          | cons w ws =>
            cases ws
            cases w with
            | @tup p vs _ a b => exact ⟨p, vs, rfl, SqT.of (k1.fh _ _ a), h _ F1 H1 k1 g1 (by rw [← hK]; exact it_enumT a b)⟩
        | _ => exact h.elim
end
end DL

set_option Elab.async false
set_option linter.all false
set_option maxRecDepth 100000
set_option autoImplicit false
namespace DL
open PySem PySem.Spec PyProof.Rows L2
variable [Tabs]

/-! ### comprehensions of two clauses -/
def back2a : Sl → Sl → Sl
  | .own _, .arg c => .own c
  | .arg _, .arg c => .arg c
  | _, .fz d => .fz d
  | _, _ => .no
def back2 : DS → DS → DS
  | [], _ => []
  | s :: δ, t :: δ' => back2a s t :: back2 δ δ'
  | s :: δ, [] => .no :: back2 δ []
def rest1 : Sl → Sl → Sl
  | .own _, .own c => .own c
  | .arg _, .arg c => .arg c
  | s, _ => s
def restD : DS → DS → DS
  | [], _ => []
  | s :: δ, t :: δ' => rest1 s t :: restD δ δ'
  | s :: δ, [] => s :: restD δ []
theorem back2_get : ∀ (δ δ' : DS) (i : Nat) (s t : Sl), δ[i]? = some s → δ'[i]? = some t → (back2 δ δ')[i]? = some (back2a s t)
  | [], _, _, _, _, h, _ => by simp at h
  | _ :: _, [], _, _, _, _, h => by simp at h
  | s :: δ, t :: δ', 0, _, _, h, h' => by simp at h h'; subst h h'; rfl
  | s :: δ, t :: δ', i + 1, _, _, h, h' => by
    show (back2 δ δ')[i]? = _
    exact back2_get δ δ' i _ _ (by simpa using h) (by simpa using h')
theorem back2_len : ∀ (δ δ' : DS), (back2 δ δ').length = δ.length
  | [], _ => rfl
  | s :: δ, t :: δ' => by show (back2 δ δ').length + 1 = _; rw [back2_len]; rfl
  | s :: δ, [] => by show (back2 δ []).length + 1 = _; rw [back2_len]; rfl
theorem rest_get : ∀ (δ δ' : DS) (i : Nat) (s t : Sl), δ[i]? = some s → δ'[i]? = some t → (restD δ δ')[i]? = some (rest1 s t)
  | [], _, _, _, _, h, _ => by simp at h
  | _ :: _, [], _, _, _, _, h => by simp at h
  | s :: δ, t :: δ', 0, _, _, h, h' => by simp at h h'; subst h h'; rfl
  | s :: δ, t :: δ', i + 1, _, _, h, h' => by
    show (restD δ δ')[i]? = _
    exact rest_get δ δ' i _ _ (by simpa using h) (by simpa using h')
theorem rest_len : ∀ (δ δ' : DS), (restD δ δ').length = δ.length
  | [], _ => rfl
  | s :: δ, t :: δ' => by show (restD δ δ').length + 1 = _; rw [rest_len]; rfl
  | s :: δ, [] => by show (restD δ []).length + 1 = _; rw [rest_len]; rfl
section
variable {G : Ct} {C' : Cf} {δ δ2 : DS} {σ σ2 : L2.St} {F H F2 H2 : Hp} {vs : List Nat}
def Ct.to (G : Ct) (C' : Cf) : Ct := { G with C := C' }
theorem St1.to (k : St1 G δ σ F H) (hK : C'.K = G.K) : St1 (G.to C') δ σ F H := by
  refine ⟨k.len, k.fh, k.f0, k.h0, k.fn, fun i s e => ?_, k.di, k.ma, k.tb⟩
  have z := k.sl i s e
  have eK : (G.to C').K = G.K := hK
  cases s with
  | no => trivial
  | fz d => obtain ⟨v, a, b⟩ := z; exact ⟨v, a, by rw [eK]; exact b⟩
  | own c => obtain ⟨p, o, a1, a2, a3, a4, a5⟩ := z; exact ⟨p, o, a1, a2, a3, by rw [eK]; exact a4, a5⟩
  | arg c => obtain ⟨p, o, a1, a2, a3, a4, a5⟩ := z; exact ⟨p, o, a1, a2, a3, by rw [eK]; exact a4, a5⟩
theorem VlOk.to {v : V} {c : Co} (w : VlOk G δ σ F H v (.own c)) (hK : C'.K = G.K) : VlOk (G.to C') δ σ F H v (.own c) := by
  obtain ⟨p, o, rfl, h1, h2, h3, h4, h5⟩ := w
  exact ⟨p, o, rfl, h1, h2, by rw [show (G.to C').K = G.K from hK]; exact h3, h4, h5⟩
/-- behind a block's beginning: its slots as ours -/
theorem blk_out2 (k : St1 G δ σ F H) (hK : C'.K = G.K) (k2 : St1 (G.blk C' δ σ F H) δ2 σ2 F2 H2) (hl : σ2.length = σ.length) : St1 (G.to C') (back2 δ δ2) σ2 F2 H2 ∧ ∀ (i : Nat) (t : Sl) (p : Addr), δ[i]? = some t → t.held = true → σ[i]? = some (some (.ref p)) → σ2[i]? = some (some (.ref p)) := by
  have hGK : (G.to C').K = G.K := hK
  have hBK : (G.blk C' δ σ F H).K = G.K := hK
  have both : ∀ i s, (back2 δ δ2)[i]? = some s → ∃ t u, δ[i]? = some t ∧ δ2[i]? = some u ∧ s = back2a t u := fun i s e => by
    have hlt : i < δ.length := by
      have := (List.getElem?_eq_some_iff.mp e).1
      rw [back2_len] at this
      exact this
    have hlt2 : i < δ2.length := by rw [k2.len, hl, ← k.len]; exact hlt
    obtain ⟨t, et⟩ : ∃ t, δ[i]? = some t := ⟨_, List.getElem?_eq_getElem hlt⟩
    obtain ⟨u, eu⟩ : ∃ u, δ2[i]? = some u := ⟨_, List.getElem?_eq_getElem hlt2⟩
    rw [back2_get δ δ2 i t u et eu] at e
    exact ⟨t, u, et, eu, (Option.some.inj e).symm⟩
  have zz : ∀ (i : Nat) (t : Sl) (p : Addr), δ[i]? = some t → t.held = true → σ[i]? = some (some (.ref p)) → σ2[i]? = some (some (.ref p)) ∧ ∃ c o, δ2[i]? = some (.arg c) ∧ H2 p = some o ∧ F2 p = none ∧ CoOk G.K F2 c o := fun i t p et th e1 => by
    have em := blk_M_of (G := G) (C' := C') (F := F) (H := H) et th e1
    obtain ⟨c, hc⟩ := k2.ma i p em
    obtain ⟨q, o, a1, a2, a3, a4, a5⟩ := k2.sl i _ hc
    rw [em] at a5
    cases a5
    exact ⟨a1, c, o, hc, a2, a3, by rw [← hBK]; exact a4⟩
  refine ⟨⟨by rw [back2_len, k.len, hl], k2.fh, k.f0.trans k2.f0, fun b o hm e => k2.h0 b o (fun i hi => ?_) (k.h0 b o hm e), fun b z => ?_, fun i s e => ?_, fun i j s t p hij e1 e2 q1 q2 r1 r2 => ?_, fun i p e => ?_, k.tb⟩, fun i t p et th e1 => (zz i t p et th e1).1⟩
  · obtain ⟨s, h1, h2, h3⟩ := blk_M hi
    have z := k.sl i s h1
    cases s with
    | own c =>
      obtain ⟨p, o', a1, a2, a3, a4, a5, a6⟩ := z
      rw [h3] at a1
      cases a1
      have e : G.H0 b = some o := e
      rw [a6] at e
      cases e
    | arg c => obtain ⟨p, o', a1, a2, a3, a4, a5⟩ := z; rw [h3] at a1; cases a1; exact hm i a5
    | _ => cases h2
  · rcases k2.fn b z with q | q
    · exact k.fn b q
    · exact .inr (k.new0 q)
  · obtain ⟨t, u, et, eu, rfl⟩ := both i s e
    have fzc : ∀ d, u = .fz d → SlOk (G.to C') F2 H2 i σ2[i]? (.fz d) := fun d hd => by
      subst hd
      obtain ⟨v, a, b⟩ := k2.sl i _ eu
      exact ⟨v, a, by rw [hGK, ← hBK]; exact b⟩
    have z := k.sl i t et
    cases t with
    | own c =>
      obtain ⟨p, o, a1, a2, a3, a4, a5, a6⟩ := z
      obtain ⟨b0, c', o', b1, b2, b3, b4⟩ := zz i _ p et rfl a1
      rw [eu] at b1
      cases b1
      exact ⟨p, o', b0, b2, b3, by rw [hGK]; exact b4, a5, a6⟩
    | arg c =>
      obtain ⟨p, o, a1, a2, a3, a4, a5⟩ := z
      obtain ⟨b0, c', o', b1, b2, b3, b4⟩ := zz i _ p et rfl a1
      rw [eu] at b1
      cases b1
      exact ⟨p, o', b0, b2, b3, by rw [hGK]; exact b4, a5⟩
    | no => cases u with
      | fz d => exact fzc d rfl
      | _ => trivial
    | fz d => cases u with
      | fz d => exact fzc d rfl
      | _ => trivial
  · have get : ∀ (m : Nat) (u : Sl) (b : Addr), (back2 δ δ2)[m]? = some u → u.held = true → σ2[m]? = some (some (.ref b)) → ∃ u', δ[m]? = some u' ∧ u'.held = true ∧ σ[m]? = some (some (.ref b)) := fun m u b e q r => by
      obtain ⟨t, u', et, eu, rfl⟩ := both m u e
      have ht : t.held = true := by cases t <;> first | rfl | (cases u' <;> exact q)
      obtain ⟨c, hc⟩ : ∃ c, t.co = some c := by cases t <;> first | exact ⟨_, rfl⟩ | cases ht
      obtain ⟨p, o, p1, _⟩ := k.held et hc
      have := (zz m t p et ht p1).1
      rw [r] at this
      cases this
      exact ⟨t, et, ht, p1⟩
    obtain ⟨u1, a1, b1, c1⟩ := get i s p e1 q1 r1
    obtain ⟨u2, a2, b2, c2⟩ := get j t p e2 q2 r2
    exact k.di i j u1 u2 p hij a1 a2 b1 b2 c1 c2
  · obtain ⟨c, hc⟩ := k.ma i p e
    obtain ⟨q, o, a1, a2, a3, a4, a5⟩ := k.sl i _ hc
    obtain ⟨_, c', o', b1, _⟩ := zz i _ q hc rfl a1
    exact ⟨c', by rw [back2_get δ δ2 i _ _ hc b1]; rfl⟩
theorem blk_val2 (k : St1 G δ σ F H) (hK : C'.K = G.K) (k2 : St1 (G.blk C' δ σ F H) δ2 σ2 F2 H2) (hl : σ2.length = σ.length) {v : V} {c : Co} (w : VlOk G δ σ F H v (.own c)) : VlOk (G.to C') (back2 δ δ2) σ2 F2 H2 v (.own c) := by
  obtain ⟨kk, addr⟩ := blk_out2 k hK k2 hl
  obtain ⟨p, o, rfl, h1, h2, h3, h4, h5⟩ := w
  refine ⟨p, o, rfl, k2.h0 p o (fun i hi => ?_) h1, ?_, by rw [show (G.to C').K = G.K from hK]; exact h3.mono k2.f0, h4, fun i s e q r => ?_⟩
  · obtain ⟨s, a1, a2, a3⟩ := blk_M hi
    exact h5 i s a1 a2 a3
  · cases e : F2 p with
    | none => rfl
    | some u =>
      rcases k2.fn p (by rw [e]; simp) with z | z
      · exact absurd h2 z
      · have z : H p = none := z
        rw [h1] at z
        cases z
  · have hlt : i < δ.length := by
      have := (List.getElem?_eq_some_iff.mp e).1
      rw [back2_len] at this
      exact this
    have hlt2 : i < δ2.length := by rw [k2.len, hl, ← k.len]; exact hlt
    obtain ⟨t, et⟩ : ∃ t, δ[i]? = some t := ⟨_, List.getElem?_eq_getElem hlt⟩
    obtain ⟨u', eu⟩ : ∃ u, δ2[i]? = some u := ⟨_, List.getElem?_eq_getElem hlt2⟩
    rw [back2_get δ δ2 i t u' et eu] at e
    cases e
    have ht : t.held = true := by cases t <;> first | rfl | (cases u' <;> exact q)
    obtain ⟨c, hc⟩ : ∃ c, t.co = some c := by cases t <;> first | exact ⟨_, rfl⟩ | cases ht
    obtain ⟨p', o', p1, _⟩ := k.held et hc
    have := addr i t p' et ht p1
    rw [r] at this
    cases this
    exact h5 i t et ht p1
/-- back at the slots that were -/
theorem rest_out (k : St1 G δ σ F H) {δ1 : DS} {σ1 : L2.St} {F1 H1 : Hp} {G' : Ct} (hG : G' = G.to C') (hK : C'.K = G.K) (k1 : St1 G' δ1 σ1 F1 H1) (ff : Same F F1) (hl : σ1.length = σ.length)
    (ad : ∀ (i : Nat) (t : Sl) (p : Addr), δ[i]? = some t → t.held = true → σ[i]? = some (some (.ref p)) → σ1[i]? = some (some (.ref p)))
    (own : ∀ (i : Nat) (c : Co), δ[i]? = some (.own c) → ∃ c', δ1[i]? = some (.own c')) : St1 G (restD δ δ1) σ F1 H1 := by
  subst hG
  have hGK : (G.to C').K = G.K := hK
  have both : ∀ i s, (restD δ δ1)[i]? = some s → ∃ t u, δ[i]? = some t ∧ δ1[i]? = some u ∧ s = rest1 t u := fun i s e => by
    have hlt : i < δ.length := by
      have := (List.getElem?_eq_some_iff.mp e).1
      rw [rest_len] at this
      exact this
    have hlt2 : i < δ1.length := by rw [k1.len, hl, ← k.len]; exact hlt
    obtain ⟨t, et⟩ : ∃ t, δ[i]? = some t := ⟨_, List.getElem?_eq_getElem hlt⟩
    obtain ⟨u, eu⟩ : ∃ u, δ1[i]? = some u := ⟨_, List.getElem?_eq_getElem hlt2⟩
    rw [rest_get δ δ1 i t u et eu] at e
    exact ⟨t, u, et, eu, (Option.some.inj e).symm⟩
  refine ⟨by rw [rest_len]; exact k.len, k1.fh, k.f0.trans ff, k1.h0, k1.fn, fun i s e => ?_, fun i j s t p hij e1 e2 q1 q2 r1 r2 => ?_, fun i p e => ?_, k.tb⟩
  · obtain ⟨t, u, et, eu, rfl⟩ := both i s e
    have z := k.sl i t et
    cases t with
    | no => trivial
    | fz d =>
      obtain ⟨v, a, b⟩ := z
      exact ⟨v, a, dp_mono ff _ _ b⟩
    | own c =>
      obtain ⟨p, o, a1, a2, a3, a4, a5, a6⟩ := z
      obtain ⟨c', hc'⟩ := own i c et
      rw [eu] at hc'
      cases hc'
      obtain ⟨p', o', b1, b2, b3, b4, b5⟩ := k1.sl i _ eu
      rw [ad i _ p et rfl a1] at b1
      cases b1
      exact ⟨p, o', a1, b2, b3, by rw [← hGK]; exact b4, a5, a6⟩
    | arg c =>
      obtain ⟨p, o, a1, a2, a3, a4, a5⟩ := z
      obtain ⟨c', hc'⟩ := k1.ma i p a5
      rw [eu] at hc'
      cases hc'
      obtain ⟨p', o', b1, b2, b3, b4, b5⟩ := k1.sl i _ eu
      rw [ad i _ p et rfl a1] at b1
      cases b1
      exact ⟨p, o', a1, b2, b3, by rw [← hGK]; exact b4, a5⟩
  · have get : ∀ (m : Nat) (u : Sl), (restD δ δ1)[m]? = some u → u.held = true → ∃ u', δ[m]? = some u' ∧ u'.held = true := fun m u e q => by
      obtain ⟨t, u', et, eu, rfl⟩ := both m u e
      exact ⟨t, et, by cases t <;> first | rfl | (cases u' <;> exact q)⟩
    obtain ⟨u1, a1, b1⟩ := get i s e1 q1
    obtain ⟨u2, a2, b2⟩ := get j t e2 q2
    exact k.di i j u1 u2 p hij a1 a2 b1 b2 r1 r2
  · obtain ⟨c, hc⟩ := k.ma i p e
    obtain ⟨c', hc'⟩ := k1.ma i p e
    exact ⟨c', by rw [rest_get δ δ1 i _ _ hc hc']; rfl⟩
end
/-- the kinds of slots that a block leaves -/
theorem turnL_own {vs : List Nat} {g : Dg} {tt : Dt} {te : De} {d : D} {δ δ1 : DS} {o : Option D} (h : turnL vs g tt te d δ = .ok o δ1) : ∃ δ', δ1 = back δ δ' := by
  unfold turnL backR at h
  split at h
  · cases h; exact ⟨_, rfl⟩
  · cases h
def oneTurn2 (vs vs1 : List Nat) (g : Dg) (tt : Dt) (ti1 : Di) (g1 : Dg) (tt1 : Dt) (te : De) (d : D) (δ : DS) : R (List D) := match g d (wipeD (δ.map toArg) vs) with
  | .ok .nx δ2 => match tt δ2 with
    | .ok true δ3 => match ti1 δ3 with
      | .ok ds1 δ4 => match freeAt vs1 (back2 δ δ4) with
        | true => match compL (turnL vs1 g1 tt1 te) ds1 (back2 δ δ4) with
          | .ok l δ7 => .ok l (restD δ δ7)
          | _ => .bad
        | false => .bad
      | _ => .bad
    | .ok false δ3 => .ok [] (back δ δ3)
    | _ => .bad
  | _ => .bad
def compLL (f : D → DS → R (List D)) : List D → DS → R (List D)
  | [], δ => .ok [] δ
  | d :: ds, δ => match f d δ with
    | .ok o δ1 => match compLL f ds δ1 with
      | .ok l δ2 => .ok (o ++ l) δ2
      | _ => .bad
    | _ => .bad
def dLc2 (vs vs1 : List Nat) (ti : Di) (g : Dg) (tt : Dt) (ti1 : Di) (g1 : Dg) (tt1 : Dt) (te : De) : De := fun δ => (ti δ).bind fun ds δ1 => okIf (freeAt vs δ1) (match compLL (oneTurn2 vs vs1 g tt ti1 g1 tt1 te) ds δ1 with
  | .ok l δ2 => okIf (small l.length) (.ok (.own (.lst l)) δ2)
  | _ => .bad)
theorem compLL_cons {f : D → DS → R (List D)} {d : D} {ds l : List D} {δ δe : DS} (h : compLL f (d :: ds) δ = .ok l δe) : ∃ o δ1 l', f d δ = .ok o δ1 ∧ compLL f ds δ1 = .ok l' δe ∧ l = o ++ l' := by
  unfold compLL at h
  cases e : f d δ with
  | ok o δ1 =>
    rw [e] at h
    simp only at h
    cases e2 : compLL f ds δ1 with
    | ok l' δ2 =>
      rw [e2] at h
      cases h
      exact ⟨o, δ1, l', rfl, e2, rfl⟩
    | ex c s => rw [e2] at h; cases h
    | bad => rw [e2] at h; cases h
  | ex c s => rw [e] at h; cases h
  | bad => rw [e] at h; cases h
theorem back_own {δ δ' : DS} {i : Nat} {c c' : Co} (h : δ[i]? = some (.own c)) (h' : δ'[i]? = some (.arg c')) : (back δ δ')[i]? = some (.own c') := back_get δ δ' i _ _ h h'
theorem back_isOwn : ∀ {δ δ' : DS} {i : Nat} {c : Co}, δ[i]? = some (.own c) → ∃ c', (back δ δ')[i]? = some (.own c')
  | [], _, _, _, h => by simp at h
  | s :: δ, [], 0, c, h => by simp at h; subst h; exact ⟨c, rfl⟩
  | s :: δ, [], i + 1, c, h => back_isOwn (δ := δ) (δ' := []) (i := i) (by simpa using h)
  | s :: δ, t :: δ', 0, c, h => by
    simp at h
    subst h
    cases t with
    | arg c' => exact ⟨c', rfl⟩
    | no => exact ⟨c, rfl⟩
    | fz d => exact ⟨c, rfl⟩
    | own d => exact ⟨c, rfl⟩
  | s :: δ, t :: δ', i + 1, c, h => back_isOwn (δ := δ) (δ' := δ') (i := i) (by simpa using h)
theorem compL_own {vs : List Nat} {g : Dg} {tt : Dt} {te : De} : ∀ {ds l : List D} {δ δe : DS}, compL (turnL vs g tt te) ds δ = .ok l δe → ∀ (i : Nat) (c : Co), δ[i]? = some (.own c) → ∃ c', δe[i]? = some (.own c')
  | [], _, _, _, h, i, c, e => by cases h; exact ⟨c, e⟩
  | d :: ds, l, δ, δe, h, i, c, e => by
    obtain ⟨o, δ1, l', e1, e2, _⟩ := compL_cons h
    obtain ⟨δ', rfl⟩ := turnL_own e1
    obtain ⟨c', hc'⟩ := back_isOwn (δ' := δ') e
    exact compL_own e2 i c' hc'
theorem freeAt_rest : ∀ {vs : List Nat} {δ δ' : DS}, freeAt vs δ = true → freeAt vs (restD δ δ') = true := fun {vs δ δ'} h => by
  refine List.all_eq_true.mpr fun i hi => ?_
  have z := List.all_eq_true.mp h i hi
  cases e : (restD δ δ')[i]? with
  | none => rfl
  | some s =>
    have hlt : i < δ.length := by
      have := (List.getElem?_eq_some_iff.mp e).1
      rw [rest_len] at this
      exact this
    obtain ⟨t, et⟩ : ∃ t, δ[i]? = some t := ⟨_, List.getElem?_eq_getElem hlt⟩
    rw [et] at z
    have bk : ∀ (δ δ' : DS) (i : Nat) (s t : Sl), δ[i]? = some t → (restD δ δ')[i]? = some s → t.held = false → s.held = false := by
      intro δ
      induction δ with
      | nil => intro δ' i s t h; simp at h
      | cons u δ ih =>
        intro δ' i s t h h' hh
        cases δ' with
        | nil => cases i with
          | zero => simp at h; subst h; simp [restD] at h'; subst h'; exact hh
          | succ i => exact ih [] i s t (by simpa using h) (by simpa [restD] using h') hh
        | cons u' δ' => cases i with
          | zero =>
            simp at h
            subst h
            simp [restD] at h'
            subst h'
            cases u with
            | own c => cases hh
            | arg c => cases hh
            | no => cases u' <;> rfl
            | fz d => cases u' <;> rfl
          | succ i => exact ih δ' i s t (by simpa using h) (by simpa [restD] using h') hh
    have th : t.held = false := by simpa using z
    have sh := bk δ δ' i s t et e th
    show (!s.held) = true
    rw [sh]
    rfl
section
variable {X : Cx} {C : Cf} {e a b c : Expr} {ta tb tc : De} {pos : Pos}
/-- what one outer turn asks -/
theorem lc2_turn {G : Ct} {δ : DS} {σ : L2.St} {F H : Hp} {vs vs1 ts ts1 : List Nat} {g : Dg} {tt : Dt} {ti1 : Di} {g1 : Dg} {tt1 : Dt} {te : De} {d : D} {l : List D} {δ1 : DS} {x : V} {p : Addr} {acc : List D} {Nx : Hp → Prop} (k : St1 G δ σ F H) (w : Dp G.K F x d) (hts : ∀ t ∈ ts, t ∈ vs) (hts1 : ∀ t ∈ ts1, t ∈ vs1) (hv : freeAt vs δ = true)
    (wa : VlOk G δ σ F H (.ref p) (.own (.lst acc))) (sz : acc.length + l.length ≤ 100000) (e : oneTurn2 vs vs1 g tt ti1 g1 tt1 te d δ = .ok l δ1)
    (q : ∀ F' H', St1 G δ1 σ F' H' → Same F F' → VlOk G δ1 σ F' H' (.ref p) (.own (.lst (acc ++ l))) → Nx H') :
    upG (nox G.C) ts g x (wipe σ vs) H fun σ2 H2 => wipe σ2 vs = wipe σ vs ∧ upT (nox G.C) tt σ2 H2 fun b H3 =>
      if b = true then upI (nox G.C) ti1 σ2 H3 fun J1 H4 => ∃ W1 : Nat → Nat → Hp → Prop, (∃ m, W1 0 m H4) ∧ ∀ j k H, W1 j k H →
        (J1.stop j H ∧ Nx H) ∨ (J1.go j H ∧ ∃ Nx1 : Hp → Prop, (∀ H', Nx1 H' → ∃ k', k' < k ∧ W1 (j + 1) k' H') ∧ ∀ x H', J1.yld j H x H' → upG (nox G.C) ts1 g1 x (wipe σ2 vs1) H' fun σ3 H5 => wipe σ3 vs1 = wipe σ2 vs1 ∧ upT (nox G.C) tt1 σ3 H5 fun b H6 =>
          if b = true then up (nox G.C) te σ3 H6 fun y H7 => ∃ acc, H7 p = some (.lst acc) ∧ acc.length < sizeLine ∧ Nx1 (upd H7 p (.lst (acc ++ [y]))) else Nx1 H6)
      else Nx H3 := by
  have kb := blk_in (C' := nox G.C) (vs := vs) k rfl hv
  unfold oneTurn2 at e
  refine ⟨G.blk (nox G.C) δ σ F H, _, F, d, rfl, kb, w, ?_⟩
  cases e1 : g d (wipeD (δ.map toArg) vs) with
  | ex cc s => rw [e1] at e; cases e
  | bad => rw [e1] at e; cases e
  | ok og δ2 =>
    rw [e1] at e
    cases og with
    | bk => cases e
    | ct => cases e
    | rt v => cases e
    | nx =>
      intro σ2 F2 H2 k2 g2 a2
      have wl : σ2.length = (wipe σ vs).length := a2.2
      refine ⟨?_, ?_⟩
      · have z : wipe σ2 vs = wipe (wipe σ vs) vs := wipe_eq (fun j hj => a2.1 j fun z => hj (hts j z)) wl
        rw [z]
        exact wipe_eq (fun j hj => wipe_out hj) (wipe_length σ vs)
      rw [wipe_length] at wl
      simp only at e
      refine ⟨G.blk (nox G.C) δ σ F H, δ2, F2, rfl, k2, ?_⟩
      cases e2 : tt δ2 with
      | ex cc s => rw [e2] at e; cases e
      | bad => rw [e2] at e; cases e
      | ok b δ3 =>
        rw [e2] at e
        intro b' F3 H3 k3 g3 w3
        have w3 : b' = b := w3
        subst w3
        cases b' with
        | false =>
          refine iteF ?_
          cases e
          have k4 := blk_out (C' := nox G.C) k rfl k3 wl
          refine q F3 H3 k4 (g2.trans g3) ?_
          have := blk_val k k3 wl wa
          rw [List.append_nil]
          exact this
        | true =>
          simp only at e
          refine iteT ⟨G.blk (nox G.C) δ σ F H, δ3, F3, rfl, k3, ?_⟩
          cases e3 : ti1 δ3 with
          | ex cc s => rw [e3] at e; cases e
          | bad => rw [e3] at e; cases e
          | ok ds1 δ4 =>
            rw [e3] at e
            simp only at e
            cases ev : freeAt vs1 (back2 δ δ4) with
            | false => rw [ev] at e; cases e
            | true =>
              rw [ev] at e
              simp only at e
              cases e5 : compL (turnL vs1 g1 tt1 te) ds1 (back2 δ δ4) with
              | ex cc s => rw [e5] at e; cases e
              | bad => rw [e5] at e; cases e
              | ok l' δ7 =>
                rw [e5] at e
                cases e
                intro J1 F4 H4 k4 g4 w4
                have w4 : ItOk G.K J1 F4 ds1 := w4
                obtain ⟨k5, addr⟩ := blk_out2 (C' := nox G.C) k rfl k4 wl
                have wa5 := blk_val2 (C' := nox G.C) k rfl k4 wl wa
                have fin : ∀ (δ9 : DS) (F9 H9 : Hp), St1 (G.to (nox G.C)) δ9 σ2 F9 H9 → Same F4 F9 → VlOk (G.to (nox G.C)) δ9 σ2 F9 H9 (.ref p) (.own (.lst (acc ++ l))) → δ9 = δ7 → Nx H9 := fun δ9 F9 H9 k9 g9 w9 e9 => by
                  subst e9
                  have gg : Same F F9 := ((g2.trans g3).trans g4).trans g9
                  have own9 : ∀ (i : Nat) (c : Co), δ[i]? = some (.own c) → ∃ c', δ9[i]? = some (.own c') := fun i c hc => by
                    obtain ⟨pp, oo, a1, _⟩ := k.sl i _ hc
                    have em := blk_M_of (G := G) (C' := nox G.C) (F := F) (H := H) hc rfl a1
                    obtain ⟨c', hc'⟩ := k4.ma i pp em
                    have e5' : (back2 δ δ4)[i]? = some (.own c') := back2_get δ δ4 i _ _ hc hc'
                    exact compL_own e5 i c' e5'
                  refine q F9 H9 (rest_out (C' := nox G.C) k rfl rfl k9 gg wl addr own9) gg ?_
                  obtain ⟨p', o, ep, h1, h2, h3, h4, h5⟩ := w9
                  cases ep
                  refine ⟨p, o, rfl, h1, h2, h3, h4, fun i s es hs r => ?_⟩
                  have hlt : i < δ.length := by
                    have := (List.getElem?_eq_some_iff.mp es).1
                    rw [rest_len] at this
                    exact this
                  obtain ⟨t, et⟩ : ∃ t, δ[i]? = some t := ⟨_, List.getElem?_eq_getElem hlt⟩
                  have hlt2 : i < δ9.length := by rw [k9.len, wl, ← k.len]; exact hlt
                  obtain ⟨u, eu⟩ : ∃ u, δ9[i]? = some u := ⟨_, List.getElem?_eq_getElem hlt2⟩
                  rw [rest_get δ δ9 i t u et eu] at es
                  cases es
                  have ht : t.held = true := by cases t <;> first | rfl | (cases u <;> exact hs)
                  obtain ⟨_, _, _, _, _, _, _, h5'⟩ := wa
                  rename_i ep' _ _ _ _
                  cases ep'
                  exact h5' i t et ht r
                refine ⟨fun j m H => m = ds1.length - j ∧ j ≤ ds1.length ∧ ∃ δ F acc1 l1, St1 (G.to (nox G.C)) δ σ2 F H ∧ Same F4 F ∧ freeAt vs1 δ = true ∧ VlOk (G.to (nox G.C)) δ σ2 F H (.ref p) (.own (.lst (acc ++ acc1))) ∧ compL (turnL vs1 g1 tt1 te) (ds1.drop j) δ = .ok l1 δ7 ∧ acc1 ++ l1 = l,
                  ⟨ds1.length, by simp, Nat.zero_le _, _, F4, [], l, k5, Same.refl F4, ev, by rw [List.append_nil]; exact wa5, e5, rfl⟩, ?_⟩
                rintro j m H8 ⟨rfl, hj, δ8, F8, acc1, l1, k8, g8, hv8, wa8, e8, rfl⟩
                obtain ⟨wgo, wst⟩ := w4 F8 H8 g8 k8.fh j
                by_cases hlt : j < ds1.length
                · right
                  obtain ⟨go, yl⟩ := wgo ds1[j] (List.getElem?_eq_getElem hlt)
                  rw [List.drop_eq_getElem_cons hlt] at e8
                  obtain ⟨o, δ9, l2, e9, e10, rfl⟩ := compL_cons e8
                  refine ⟨go, fun H' => ∃ F', St1 (G.to (nox G.C)) δ9 σ2 F' H' ∧ Same F4 F' ∧ VlOk (G.to (nox G.C)) δ9 σ2 F' H' (.ref p) (.own (.lst ((acc ++ acc1) ++ o.toList))), fun H' ⟨F', q1, q2, q3⟩ => ⟨ds1.length - (j + 1), by omega, rfl, hlt, δ9, F', acc1 ++ o.toList, l2, q1, q2, ?_, by rw [← List.append_assoc]; exact q3, e10, by rw [List.append_assoc]⟩, fun x H9 y => ?_⟩
                  · obtain ⟨δ', rfl⟩ := turnL_own e9
                    exact freeAt_back hv8
                  · obtain ⟨F9, f1, f2, f3, f4, w9⟩ := yl x H9 y
                    have k9 := grow_it k8 f1 f2 f3 f4
                    have szz : (acc ++ acc1).length ≤ 100000 := by
                      simp only [List.length_append] at sz ⊢
                      omega
                    exact lc_turn (G := G.to (nox G.C)) k9 w9 hts1 hv8 (wa8.grow f1 f3 f4) (decide_eq_true szz) e9 fun F' H' q1 q2 q3 => ⟨F', q1, (g8.trans f1).trans q2, q3⟩
                · left
                  have ej : j = ds1.length := by omega
                  subst ej
                  rw [List.drop_length] at e8
                  cases e8
                  rw [List.append_nil] at fin
                  exact ⟨wst rfl, fin δ7 F8 H8 k8 g8 wa8 rfl⟩
theorem rf_lc2 {vs vs1 ts ts1 : List Nat} {ti : Di} {g : Dg} {tt : Dt} {ti1 : Di} {g1 : Dg} {tt1 : Dt} {te : De} (hts : ∀ t ∈ ts, t ∈ vs) (hts1 : ∀ t ∈ ts1, t ∈ vs1) : ∀ σ H Q, up C (dLc2 vs vs1 ti g tt ti1 g1 tt1 te) σ H Q →
    tLc2 (upI C ti) (upG (nox C) ts g) (upT (nox C) tt) (upI (nox C) ti1) (upG (nox C) ts1 g1) (upT (nox C) tt1) (up (nox C) te) vs vs1 σ H Q := fun σ H Q ⟨G, δ, F, hC, k, h⟩ => by
  subst hC
  refine ⟨G, δ, F, rfl, k, finA_bind h fun ds δ1 J F1 H1 k1 g1 w1 h1 => ?_⟩
  have w1 : ItOk G.K J F1 ds := w1
  obtain ⟨z2, h2⟩ := okIf_fin h1
  cases ec : compLL (oneTurn2 vs vs1 g tt ti1 _ tt1 te) ds δ1 with
  | ex c s => rw [ec] at h2; exact h2.elim
  | bad => rw [ec] at h2; exact h2.elim
  | ok L δe =>
    rw [ec] at h2
    obtain ⟨z1, h3⟩ := okIf_fin h2
    have z1' : L.length ≤ 100000 := of_decide_eq_true z1
    intro p hp
    refine ⟨fun i m H => m = ds.length - i ∧ i ≤ ds.length ∧ ∃ δ F acc l, St1 G δ σ F H ∧ Same F1 F ∧ freeAt vs δ = true ∧ VlOk G δ σ F H (.ref p) (.own (.lst acc)) ∧ compLL (oneTurn2 vs vs1 g tt ti1 _ tt1 te) (ds.drop i) δ = .ok l δe ∧ acc ++ l = L,
      ⟨ds.length, by simp, Nat.zero_le _, δ1, F1, [], L, k1.newOwn hp, Same.refl F1, z2, k1.valOwn hp ⟨[], rfl, .nil⟩, ec, rfl⟩, ?_⟩
    rintro i m H2 ⟨rfl, hi, δ2, F2, acc, l, k2, g2, hv, wa, e2, rfl⟩
    obtain ⟨wgo, wst⟩ := w1 F2 H2 g2 k2.fh i
    by_cases hlt : i < ds.length
    · right
      obtain ⟨go, yl⟩ := wgo ds[i] (List.getElem?_eq_getElem hlt)
      rw [List.drop_eq_getElem_cons hlt] at e2
      obtain ⟨o, δ3, l', e3, e4, rfl⟩ := compLL_cons e2
      have hv3 : freeAt vs δ3 = true := by
        unfold oneTurn2 at e3
        split at e3
        · split at e3
          · split at e3
            · split at e3
              · split at e3
                · cases e3; exact freeAt_rest hv
                · cases e3
              · cases e3
            · cases e3
          · cases e3; exact freeAt_back hv
          · cases e3
        · cases e3
      refine ⟨go, fun H' => ∃ F', St1 G δ3 σ F' H' ∧ Same F1 F' ∧ VlOk G δ3 σ F' H' (.ref p) (.own (.lst (acc ++ o))), fun H' ⟨F', q1, q2, q3⟩ => ⟨ds.length - (i + 1), by omega, rfl, hlt, δ3, F', acc ++ o, l', q1, q2, hv3, q3, e4, by rw [List.append_assoc]⟩, fun x H3 y => ?_⟩
      obtain ⟨F3, f1, f2, f3, f4, w3⟩ := yl x H3 y
      have k3 := grow_it k2 f1 f2 f3 f4
      have szz : acc.length + o.length ≤ 100000 := by
        simp only [List.length_append] at z1'
        omega
      exact lc2_turn k3 w3 hts hts1 hv (wa.grow f1 f3 f4) szz e3 fun F' H' q1 q2 q3 => ⟨F', q1, (g2.trans f1).trans q2, q3⟩
    · left
      have e : i = ds.length := by omega
      subst e
      refine ⟨wst rfl, ?_⟩
      rw [List.drop_length] at e2
      cases e2
      rw [List.append_nil] at h3
      exact h3 (.ref p) F2 H2 k2 g2 wa
theorem pd_lc2 {elt tg iter tg1 iter1 : Expr} {ifs ifs1 : List Expr} {scope : Scope} {own : List (Str × Nat)} {vs1 ts ts1 : List Nat} {ti ti1 : Di} {g g1 : Dg} {tt tt1 : Dt} {te : De} (hi : PI X tg iter (upI C ti)) (hN : X.N.Nodup) (ok : BlkOk X.N X.env.scope scope own)
    (hg : ∀ (s : Shared) (H : Hp) (Ca : Addr) (cl : List (Str × Addr)) (fp : List Addr), PG (X.blk s H scope (compEnvC scope cl Ca X.env) fp) tg (upG (nox C) ts g)) (ht : ∀ (s : Shared) (H : Hp) (Ca : Addr) (cl : List (Str × Addr)) (fp : List Addr), PTs (X.blk s H scope (compEnvC scope cl Ca X.env) fp) ifs (upT (nox C) tt))
    (hi1 : ∀ (s : Shared) (H : Hp) (Ca : Addr) (cl : List (Str × Addr)) (fp : List Addr), PI (X.blk s H scope (compEnvC scope cl Ca X.env) fp) tg1 iter1 (upI (nox C) ti1))
    (hg1 : ∀ (s : Shared) (H : Hp) (Ca : Addr) (cl : List (Str × Addr)) (fp : List Addr), PG (X.blk s H scope (compEnvC scope cl Ca X.env) fp) tg1 (upG (nox C) ts1 g1)) (ht1 : ∀ (s : Shared) (H : Hp) (Ca : Addr) (cl : List (Str × Addr)) (fp : List Addr), PTs (X.blk s H scope (compEnvC scope cl Ca X.env) fp) ifs1 (upT (nox C) tt1))
    (he : ∀ (s : Shared) (H : Hp) (Ca : Addr) (cl : List (Str × Addr)) (fp : List Addr), PE (X.blk s H scope (compEnvC scope cl Ca X.env) fp) elt (up (nox C) te)) (hv : ∀ i ∈ vs1, i ∈ own.map (·.2) := by decide) (hts : ∀ t ∈ ts, t ∈ own.map (·.2) := by decide) (hts1 : ∀ t ∈ ts1, t ∈ vs1 := by decide) (hc : X.calm = true := by rfl)
    (hs : ∀ x, foldedSetIterable iter X.env x = pure x := by intro _; rfl) (hs1 : ∀ env x, foldedSetIterable iter1 env x = pure x := by intro _ _; rfl) :
    PE X (.ListComp elt [⟨tg, iter, ifs, 0⟩, ⟨tg1, iter1, ifs1, 0⟩] scope pos) (up C (dLc2 (own.map (·.2)) vs1 ti g tt ti1 g1 tt1 te)) := pe_weak (pe_lc2 hc hN hi ok hv hg ht hi1 hg1 ht1 he hs hs1) (rf_lc2 hts hts1)
end
end DL

set_option Elab.async false
set_option linter.all false
set_option maxRecDepth 100000
set_option autoImplicit false
namespace DL
open PySem PySem.Spec PyProof.Rows L2
variable [Tabs]
/-- a def that stands at its name and keeps its promise -/
structure Cal (P : Program) (w : World) (K : PySem.W.Frag) (mg : Str → Option Value) (base : Heap) (k : Nat) (x : Str) (ps : List Str) (den : List Sl → R Vl) : Prop where
  ex : ∃ (f : Addr) (fd : FuncData), FnOk P w K mg base CX0 k f fd ps (dsp K den) ∧ mg x = some (.ref f) ∧ PySem.W.keepIn K (.ref f) = true ∧ Binds K fd ps []
section
variable {X : Cx} {C : Cf} {e a b c : Expr} {ta tb tc : De} {pos : Pos} {k : Nat} {ps : List Str} {x : Str}
theorem pd_cal {es : List Expr} {p : Pos} {den : List Sl → R Vl} {al : Da} (F : Cal X.prog X.w X.K X.mg X.base k x ps den) (hr : Room k X.A) (ha : PA X (e :: es) (upA C al)) (hK : C.K = X.K := by rfl) (hE : ∀ (σ : L2.St) (c : Value) (H : Hp), C.E σ c none H → False := by exact fun _ _ _ h => h) (hg : Gl X x := by rfl) (hdb : (x == ("__debug__" : Str)) = false := by decide) (he : starEach (e :: es) X.env = (false, eval e X.env) :: starEach es X.env := by rfl) (hpl : (backTo pos (starEach es X.env)).any (·.1) = false := by rfl) :
    PE X (.Call (.Name x p) (e :: es) [] pos) (up C (dCall den al)) := by
  obtain ⟨f, fd, Fn, hm, hk, hb⟩ := F.ex
  exact pd_call (C := C) (by rw [hK]; exact Fn) hr hm hk hb ha hE hg hdb he hpl
theorem ptd_chain {op op' : CmpOp} {r r' : R2} {f g : D → D → Option Vl} (ho : OpR X (compareOp op) r) (o : Op2 C.K r f) (ho' : OpR X (compareOp op') r') (o' : Op2 C.K r' g) (ha : PE X a (up C ta)) (hb : PE X b (up C tb)) (hc : PE X c (up C tc))
    (hp : ∀ (ta tb tc : TE), PE X a ta → PE X b tb → PE X c tc → PT X (.Compare a [op, op'] [b, c] pos) (tTest (tChain r r' ta tb tc)) := by exact fun _ _ _ h1 h2 h3 => pt_chain (by assumption) (by assumption) h1 h2 h3) : PT X (.Compare a [op, op'] [b, c] pos) (upT C (dTest (dChain f g ta tb tc))) := pt_weak (hp _ _ _ ha hb hc) (rf_test (rf_chain o o'))
/-- a, b = e1, e2 where both are plain locals -/
def dPar (i j : Nat) (l : Dl) : Ds := fun δ => (l δ).bind fun ds δ1 => match ds with
  | [d, e] => okIf (okSet δ1 i && okSet δ1 j) (.ok .nx ((δ1.set i (.fz d)).set j (.fz e)))
  | _ => .bad
theorem okSet_set {δ : DS} {i j : Nat} {d : D} (h : okSet δ j = true) : okSet (δ.set i (.fz d)) j = true := by
  unfold okSet at h ⊢
  by_cases hij : i = j
  · subst hij
    cases e : δ[i]? with
    | none => rw [e] at h; cases h
    | some s =>
      rw [List.getElem?_set_self (List.getElem?_eq_some_iff.mp e).1]
  · rw [List.getElem?_set_ne hij]
    exact h
theorem pds_par (i j : Nat) {y z : Str} {px py pt p2 : Pos} {kt k2 : Nat} {tl : Dl} (ha : PA X [a, b] (upL C tl)) (hN : X.N.Nodup) (hp : ∀ (ta : TA), PA X [a, b] ta → PS X (.Assign [.Tuple [.Name y px, .Name z py] kt pt] (.Tuple [a, b] k2 p2) pos) (tPar i j ta)) :
    PS X (.Assign [.Tuple [.Name y px, .Name z py] kt pt] (.Tuple [a, b] k2 p2) pos) (ups C (dPar i j tl)) := ps_weak (hp _ ha) fun D σ H ⟨G, δ, F, hC, k, h⟩ => by
  subst hC
  refine ⟨G, δ, F, rfl, k, finS_bind h fun ds δ1 vs F1 H1 k1 g1 w1 h1 => ?_⟩
  have w1 : DpAll G.K F1 vs ds := w1
  cases w1 with
  | nil => exact h1.elim
  | @cons v vs d ds w ws =>
    cases ws with
    | nil => exact h1.elim
    | @cons u us d2 ds w2 ws =>
      cases ws with
      | cons _ _ => exact h1.elim
      | nil =>
        obtain ⟨z, h2⟩ := okIf_finS h1
        rw [Bool.and_eq_true] at z
        obtain ⟨s1, e1, a1⟩ := okSet_some z.1
        obtain ⟨s2, e2, a2⟩ := okSet_some (okSet_set (i := i) (d := d) z.2)
        exact ⟨v, u, rfl, h2 _ F1 H1 ((k1.setFz e1 a1 w).setFz e2 a2 w2) (Same.refl F1)⟩
/-- xs.extend(e) -/
def isExact (K : PySem.W.Frag) : V → List V → Hp → VK → Prop := fun x vs H Q => ∃ l b xs zs, x = .ref l ∧ vs = [.ref b] ∧ H l = some (.lst xs) ∧ Rd H b (.lst zs) ∧ xs.length + zs.length ≤ sizeLine ∧ Q .non (upd H l (.lst (xs ++ zs)))
end
end DL

set_option Elab.async false
set_option linter.all false
set_option maxRecDepth 100000
set_option autoImplicit false
namespace DL
open PySem PySem.Spec PyProof.Rows L2
variable [Tabs]
/-! ### rows of ints -/
def intsOf : List D → Option (List Int)
  | [] => some []
  | .int i :: ds => (intsOf ds).map (i :: ·)
  | _ :: _ => none
theorem intsOf_some : ∀ {ds : List D} {ns : List Int}, intsOf ds = some ns → ds = ns.map PyData.int
  | [], _, h => by cases h; rfl
  | .int i :: ds, ns, h => by
    have h : (intsOf ds).map (i :: ·) = some ns := h
    cases e : intsOf ds with
    | none => rw [e] at h; cases h
    | some ms =>
      rw [e] at h
      cases h
      rw [intsOf_some e]
      rfl
  | .none :: _, _, h => by cases h
  | .bool _ :: _, _, h => by cases h
  | .str _ :: _, _, h => by cases h
  | .list _ :: _, _, h => by cases h
  | .tuple _ :: _, _, h => by cases h
  | .dict _ :: _, _, h => by cases h
theorem intsOf_map : ∀ ns : List Int, intsOf (ns.map PyData.int) = some ns
  | [] => rfl
  | n :: ns => by
    show (intsOf (ns.map PyData.int)).map (n :: ·) = _
    rw [intsOf_map ns]
    rfl
theorem dpa_int_eq {K : PySem.W.Frag} {F : Hp} : ∀ {ns : List Int} {vs : List V}, DpAll K F vs (ns.map PyData.int) → vs = ns.map V.int
  | [], _, h => by cases h; rfl
  | n :: ns, _, h => by
    cases h with
    | cons h t =>
      cases h
      rw [dpa_int_eq t]
      rfl
section
variable {X : Cx} {C : Cf} {e a b c : Expr} {ta tb tc : De} {pos : Pos}
/-! ### max of a list, of a tuple of ints -/
theorem fold_max : ∀ (ns : List Int) (n : Int), ns.foldl max n ∈ n :: ns ∧ ∀ y ∈ n :: ns, y ≤ ns.foldl max n
  | [], n => by simp
  | m :: ns, n => by
    obtain ⟨h1, h2⟩ := fold_max ns (max n m)
    refine ⟨?_, fun y hy => ?_⟩
    · show ns.foldl max (max n m) ∈ _
      rcases List.mem_cons.mp h1 with h | h
      · rw [h]
        by_cases hc : n ≤ m
        · rw [Int.max_eq_right hc]; simp
        · rw [Int.max_eq_left (by omega)]; simp
      · exact List.mem_cons_of_mem _ (List.mem_cons_of_mem _ h)
    · show y ≤ ns.foldl max (max n m)
      have z := h2 (max n m) List.mem_cons_self
      rcases List.mem_cons.mp hy with rfl | hy
      · omega
      · rcases List.mem_cons.mp hy with rfl | hy
        · omega
        · exact h2 y (List.mem_cons_of_mem _ hy)
def maxI : List Int → Option Vl
  | [] => none
  | n :: ns => some (.fz (.int (ns.foldl max n)))
def fMaxL : D → Option Vl
  | .list ds => (intsOf ds).bind maxI
  | .tuple ds => (intsOf ds).bind maxI
  | _ => none
def rMaxT (K : PySem.W.Frag) : List V → Hp → VK → Prop := fun vs H Q => ∃ (a : Addr) (n : Int) (ns : List Int), vs = [V.ref a] ∧ (SqL K H a ((n :: ns).map V.int) ∨ SqT K H a ((n :: ns).map V.int)) ∧ Q (.int (ns.foldl max n)) H
theorem dpa_ofInts {K : PySem.W.Frag} {F : Hp} : ∀ ns : List Int, L2.DpAll K F (ns.map V.int) (ns.map PyData.int)
  | [] => .nil
  | n :: ns => .cons (.int n) (dpa_ofInts ns)
theorem call_maxT (hc : X.calm = true) (hu : X.A.units + 64 < cLine) : CallR X (.builtin "max") (rMaxT X.K) := by
  intro pins s σ H vs us Q I r h
  obtain ⟨a, n, ns, rfl, hs, q⟩ := h
  rcases hs with hs | hs
  · exact cr_max hc pins s σ H _ us Q I r ⟨a, n :: ns, rfl, hs, by simp, fun m h1 h2 => by
      obtain ⟨g1, g2⟩ := fold_max ns n
      have e : m = ns.foldl max n := Int.le_antisymm (g2 m h1) (h2 _ g1)
      rw [e]
      exact q⟩
  · obtain ⟨its, rv, hl, _⟩ := I.tuple hs
    rw [Vals.ref1 r]
    obtain ⟨as, ra⟩ := L2.Dp.readsAll I ((n :: ns).map PyData.int) _ _ (dpa_ofInts (n :: ns)) rv
    refine PySem.W.max_tuple_data (x := .int n) (xs := ns.map PyData.int) (I.ok.hd hc) hl ra ⟨?_, ?_⟩ ?_ fun i v h' tk bs _ rd kp => ?_
    · intro x hx y hy
      have gx : ∀ x ∈ PyData.int n :: ns.map PyData.int, ∃ i, x = PyData.int i := fun x hx => by
        rcases List.mem_cons.mp hx with rfl | hx
        · exact ⟨_, rfl⟩
        · obtain ⟨i, _, rfl⟩ := List.mem_map.mp hx
          exact ⟨i, rfl⟩
      obtain ⟨i, rfl⟩ := gx x hx
      obtain ⟨j, rfl⟩ := gx y hy
      rfl
    · intro x hx e
      subst e
      rcases List.mem_cons.mp hx with hx | hx
      · cases hx
      · obtain ⟨i, _, hi⟩ := List.mem_map.mp hx
        cases hi
    · have := PySem.W.depth_ints (n :: ns)
      rw [List.map_cons] at this
      rw [this]
      omega
    · rw [PySem.W.maxD_ints] at rd
      cases rd
      exact ⟨.int _, H, I.kept kp, ⟨_, rfl⟩, q⟩
theorem b_maxL {K : PySem.W.Frag} : B1 K (rMaxT K) fMaxL := by
  intro G δ σ F H x d z Q hK k hx ez q
  subst hK
  have go : ∀ ds, (intsOf ds).bind maxI = some z → ∃ n ns, ds = (n :: ns).map PyData.int ∧ z = .fz (.int (ns.foldl max n)) := fun ds e => by
    cases ei : intsOf ds with
    | none => rw [ei] at e; cases e
    | some ms =>
      rw [ei] at e
      cases ms with
      | nil => cases e
      | cons n ns => cases e; exact ⟨n, ns, intsOf_some ei, rfl⟩
  cases d with
  | list ds =>
    obtain ⟨p, vs, rfl, h1, h2⟩ := hx.list k.fh
    obtain ⟨n, ns, rfl, rfl⟩ := go ds ez
    rw [dpa_int_eq h2] at h1
    exact ⟨_, n, ns, rfl, .inl (SqL.of h1), q.fz k (.int _)⟩
  | tuple ds =>
    obtain ⟨p, vs, rfl, h1, h2⟩ := hx.tup
    obtain ⟨n, ns, rfl, rfl⟩ := go ds ez
    rw [dpa_int_eq h2] at h1
    exact ⟨_, n, ns, rfl, .inr (SqT.of (k.fh _ _ h1)), q.fz k (.int _)⟩
  | _ => cases ez
theorem pd_maxL {p : Pos} (hm : X.mg "max" = none) (hu : X.A.units + 64 < cLine) (ha : PE X e (up C ta)) (hc : X.calm = true := by rfl) (hK : C.K = X.K := by rfl) (hcall : ∀ (r : List V → Hp → VK → Prop) (te : TE), X.mg "max" = none → CallR X (.builtin "max") r → PE X e te → PE X (.Call (.Name "max" p) [e] [] pos) (tCB r (tCons te tNil)) := by exact fun _ _ hm0 h1 h2 => pe_callB h1 (by rfl) hm0 (by decide +kernel) (pa_cons h2 pa_nil)) :
    PE X (.Call (.Name "max" p) [e] [] pos) (up C (dUn fMaxL ta)) := pe_weak (hcall _ _ hm (call_maxT hc hu) ha) (by rw [← hK]; exact rf_b1 b_maxL)
/-! ### sorted -/
def isII : D → Bool
  | .tuple [.int _, .int _] => true
  | _ => false
def isI : D → Bool
  | .int _ => true
  | _ => false
def leD : D → D → Bool := PySem.W.dataLe false id
def fSorted : D → Option Vl
  | .list ds => match (ds.all isII || ds.all isI) && small ds.length with
    | true => some (.own (.lst (ds.mergeSort leD)))
    | false => none
  | _ => none
def okSort (ds : List D) : Bool := (ds.all isII || ds.all isI) && small ds.length
def rSortD (K : PySem.W.Frag) : List V → Hp → VK → Prop := fun vs H Q => ∃ (a : Addr) (F : Hp) (xs : List V) (ds : List D), vs = [V.ref a] ∧ Same F H ∧ SqL K H a xs ∧ DpAll K F xs ds ∧ okSort ds = true ∧
  ∀ (ys : List V) (p : Addr), DpAll K F ys (ds.mergeSort leD) → H p = none → Q (.ref p) (upd H p (.lst ys))
theorem all_ii {ds : List D} (h : ds.all isII = true) : ∀ d ∈ ds, ∃ i j, d = .tuple [.int i, .int j] := fun d hd => by
  have := List.all_eq_true.mp h d hd
  unfold isII at this
  split at this
  · exact ⟨_, _, rfl⟩
  · cases this
theorem all_i {ds : List D} (h : ds.all isI = true) : ∀ d ∈ ds, ∃ i, d = .int i := fun d hd => by
  have := List.all_eq_true.mp h d hd
  unfold isI at this
  split at this
  · exact ⟨_, rfl⟩
  · cases this
theorem sort_alike {ds : List D} (h : okSort ds = true) : PySem.W.AllAlike ds ∧ PySem.W.Sortable ds ∧ ds.length ≤ sizeLine ∧ (∀ d ∈ ds, d.depth ≤ 1) ∧ PyData.canLayAll0 ds = true := by
  unfold okSort at h
  rw [Bool.and_eq_true, Bool.or_eq_true] at h
  obtain ⟨h | h, h2⟩ := h
  · have g := all_ii h
    refine ⟨fun d hd d' hd' => ?_, .inl fun d hd => ?_, small_line h2, fun d hd => ?_, ?_⟩
    · obtain ⟨i, j, rfl⟩ := g d hd
      obtain ⟨i', j', rfl⟩ := g d' hd'
      rfl
    · obtain ⟨i, j, rfl⟩ := g d hd
      exact ⟨_, _, rfl⟩
    · obtain ⟨i, j, rfl⟩ := g d hd
      simp [PyData.depth, PyData.depthAll]
    · clear h2 h
      induction ds with
      | nil => rfl
      | cons d ds ih =>
        obtain ⟨i, j, rfl⟩ := g d List.mem_cons_self
        have := ih fun d hd => g d (List.mem_cons_of_mem _ hd)
        show (_ && PyData.canLayAll0 ds) = true
        rw [this]
        rfl
  · have g := all_i h
    refine ⟨fun d hd d' hd' => ?_, .inr fun d hd => ?_, small_line h2, fun d hd => ?_, ?_⟩
    · obtain ⟨i, rfl⟩ := g d hd
      obtain ⟨i', rfl⟩ := g d' hd'
      rfl
    · obtain ⟨i, rfl⟩ := g d hd
      exact ⟨by simp, by simp⟩
    · obtain ⟨i, rfl⟩ := g d hd
      simp [PyData.depth]
    · clear h2 h
      induction ds with
      | nil => rfl
      | cons d ds ih =>
        obtain ⟨i, rfl⟩ := g d List.mem_cons_self
        have := ih fun d hd => g d (List.mem_cons_of_mem _ hd)
        show (_ && PyData.canLayAll0 ds) = true
        rw [this]
        rfl
theorem each_of_reads {h : Heap} : ∀ {vs : List Value} {ds : List D} {as : List Addr}, ReadsAll h vs ds as → PySem.W.EachIs (fun v d => ∃ as, Reads h v d as) vs ds
  | _, _, _, .nil => .nil
  | _, _, _, .cons r rs => .cons ⟨_, r⟩ (each_of_reads rs)
theorem each_of_vals {K : PySem.W.Frag} {F : Hp} : ∀ {xs : List V} {ds : List D} {us : List Value}, DpAll K F xs ds → Vals xs us → PySem.W.EachIs (fun u d => ∃ x, RelV x u ∧ Dp K F x d) us ds
  | _, _, _, .nil, r => by cases r; exact .nil
  | _, _, _, .cons h t, r => by
    cases r with
    | cons r rs => exact .cons ⟨_, r, h⟩ (each_of_vals t rs)
theorem vals_of_each {K : PySem.W.Frag} {F : Hp} : ∀ {us : List Value} {ds : List D}, PySem.W.EachIs (fun u d => ∃ x, RelV x u ∧ Dp K F x d) us ds → ∃ ys, Vals ys us ∧ DpAll K F ys ds
  | _, _, .nil => ⟨[], .nil, .nil⟩
  | _, _, .cons ⟨x, h1, h2⟩ t => by
    obtain ⟨ys, g1, g2⟩ := vals_of_each t
    exact ⟨x :: ys, .cons h1 g1, .cons h2 g2⟩
theorem call_sortD (hu : X.A.units + 64 < cLine) : CallR X (.builtin "sorted") (rSortD X.K) := by
  intro pins s σ H vs us Q I r h
  obtain ⟨a, F, xs, ds, rfl, fh, hs, hd, hk, q⟩ := h
  obtain ⟨h1, h2, h3, h4, h5⟩ := sort_alike hk
  obtain ⟨its, rv, hl, _⟩ := I.list hs
  rw [Vals.ref1 r]
  obtain ⟨as, ra⟩ := L2.Dp.readsAll I ds _ _ (dpa_lib ds xs h5 (dpa_mono fh _ _ hd)) rv
  refine PySem.W.sorted_data (R := fun u d => ∃ x, RelV x u ∧ Dp X.K F x d) (enc := id) (bs := ds) hl.isList (each_of_vals hd rv) (each_of_reads ra) (by rw [List.map_id]; exact h1) (by rw [List.map_id]; exact h2) h3 (fun b hb => ?_) fun out ho he => ?_
  · have := h4 b hb
    show X.A.units + 2 + b.depth < cLine
    omega
  · obtain ⟨ep, he'⟩ := PyProof.Rows.sortedAll_at s.heap its out.toArray
    obtain ⟨ys, g1, g2⟩ := vals_of_each he
    have hlen : ys.length ≤ sizeLine := by rw [dpa_len g2, List.length_mergeSort]; exact h3
    exact ⟨.ref _, upd H (s.heap.objs.size + 1) (.lst ys), I.laid (t' := s.toks) (fun _ _ => PyProof.Rows.sortedAll_old) (Nat.le_succ _) ⟨hlen, out, ep, g1, he'⟩, rfl, q ys _ g2 (I.hok.fresh (Nat.le_succ _))⟩
theorem b_sorted {K : PySem.W.Frag} : B1 K (rSortD K) fSorted := by
  intro G δ σ F H x d z Q hK k hx ez q
  subst hK
  cases d with
  | list ds =>
    obtain ⟨p, vs, rfl, h1, h2⟩ := hx.list k.fh
    have ez : (match okSort ds with | true => some (Vl.own (.lst (ds.mergeSort leD))) | false => none) = some z := ez
    cases eo : okSort ds with
    | false => rw [eo] at ez; cases ez
    | true =>
      rw [eo] at ez
      cases ez
      exact ⟨_, F, vs, ds, rfl, k.fh, SqL.of h1, h2, eo, fun ys p hy => q.newL k hy p⟩
  | _ => cases ez
theorem pd_sorted {p : Pos} (hm : X.mg "sorted" = none) (hu : X.A.units + 64 < cLine) (ha : PE X e (up C ta)) (hK : C.K = X.K := by rfl) (hcall : ∀ (r : List V → Hp → VK → Prop) (te : TE), X.mg "sorted" = none → CallR X (.builtin "sorted") r → PE X e te → PE X (.Call (.Name "sorted" p) [e] [] pos) (tCB r (tCons te tNil)) := by exact fun _ _ hm0 h1 h2 => pe_callB h1 (by rfl) hm0 (by decide +kernel) (pa_cons h2 pa_nil)) :
    PE X (.Call (.Name "sorted" p) [e] [] pos) (up C (dUn fSorted ta)) := pe_weak (hcall _ _ hm (call_sortD hu) ha) (by rw [← hK]; exact rf_b1 b_sorted)
end
end DL

set_option Elab.async false
set_option linter.all false
set_option maxRecDepth 100000
set_option autoImplicit false
namespace DL
open PySem PySem.Spec PyProof.Rows L2
variable [Tabs]
section
variable {X : Cx} {C : Cf} {e a b c : Expr} {ta tb tc : De} {pos : Pos}
/-! ### xs.extend(e) -/
def fExt (es ds : List D) : Option (List D) := okO (small (ds.length + es.length)) (some (ds ++ es))
def extD (i : Nat) (d : D) (δ : DS) : R Out := match d with
  | .list es => mutL i (fExt es) δ
  | _ => .bad
def dExt (i : Nat) (a : De) : Ds := fun δ => okIf (isLst i δ) ((a δ).bind fun x δ1 => (kp x δ1).bind fun d δ2 => extD i d δ2)
theorem pds_ext (i : Nat) {x : Str} {p1 p2 p3 : Pos} (ha : PE X e (up C ta)) (hN : X.N[i]? = some x := by rfl) (hv : Vis X.env.scope x := by first | exact Or.inl rfl | exact Or.inr (Or.inl rfl) | exact Or.inr (Or.inr rfl)) (hd : (x == ("__debug__" : Str)) = false := by decide)
    (hcd : (x == ("__classdict__" : Str)) = false := by decide) (hw : swapsWith (.Call (.Attribute (.Name x p1) "extend" p2) [e] [] p3) none pos.line X.env = pure false := by rfl)
    (hcall : ∀ (to te : TE), PE X (.Name x p1) to → PE X e te → PE X (.Call (.Attribute (.Name x p1) "extend" p2) [e] [] p3) (tBM X.K "list" rExtend to (tCons te tNil)) := by exact fun _ _ h1 h2 => pe_bm PySem.F.plainAttrs_list PySem.F.slot_list_extend PySem.F.type_list_extend mt_extend h1 (pa_cons h2 pa_nil)) :
    PS X (.Expr (.Call (.Attribute (.Name x p1) "extend" p2) [e] [] p3) pos) (ups C (dExt i ta)) := by
  refine ps_weak (ps_expr (hcall _ _ (pe_var hN hv hd hcd) ha) hw) fun D σ H ⟨G, δ, F, hC, k, h⟩ => ?_
  subst hC
  obtain ⟨z, h⟩ := okIf_finS h
  obtain ⟨p, vs, e1, e2⟩ := isLst_held k z
  refine ⟨.ref p, e1, .inl ⟨rfl, vs, SqL.of e2⟩, G, δ, F, rfl, k, finS_bind h fun x δ1 v F1 H1 k1 g1 w1 h1 => ?_⟩
  obtain ⟨d, δ2, F2, k2, g2, w2, h2⟩ := kp_bindS k1 h1 w1
  cases d with
  | list es =>
    have h2 : finS G (mutL i (fExt es) δ2) F2 D := h2
    cases w2 with
    | @lst q zs _ f2 al =>
      obtain ⟨s, ds, l, q1, q2, q3, h3⟩ := mutL_fin h2
      obtain ⟨p', o, a1, a2, a3, vs', rfl, a4⟩ := k2.held q1 q2
      rw [e1] at a1
      cases a1
      obtain ⟨z1, z2⟩ := okO_some q3
      cases z2
      exact ⟨p, q, vs', zs, rfl, rfl, a2, k2.fh _ _ f2, by rw [dpa_len a4, dpa_len al]; exact small_line z1, h3 σ F2 _ (k2.change q1 q2 e1 ⟨_, rfl, dpa_app a4 al⟩) (Same.refl F2)⟩
  | _ => exact h2.elim
end
/-! ### a def that raises nothing: of what it leaves only its lists by reference are told -/
def trim : List Sl → DS → DS
  | .arg _ :: as, s :: δ => s :: trim as δ
  | _ :: as, _ :: δ => .no :: trim as δ
  | _, _ => []
theorem trim_at : ∀ {as : List Sl} {δ : DS} {i : Nat} {c c' : Co}, as[i]? = some (.arg c) → δ[i]? = some (.arg c') → (trim as δ)[i]? = some (.arg c')
  | [], _, _, _, _, h, _ => by simp at h
  | _ :: _, [], _, _, _, _, h => by simp at h
  | a :: as, s :: δ, 0, c, c', h, h' => by
    have h : a = .arg c := by simpa using h
    have h' : s = .arg c' := by simpa using h'
    subst h h'
    rfl
  | a :: as, s :: δ, i + 1, c, c', h, h' => by
    have z := trim_at (as := as) (δ := δ) (i := i) (by simpa using h) (by simpa using h')
    cases a <;> simpa [trim] using z
def noEx (as : List Sl) (r : R Vl) : R Vl := match r with
  | .ok v δ => .ok v (trim as δ)
  | _ => .bad
def noX (r : R Vl) : R Vl := match r with
  | .ok v δ => .ok v δ
  | _ => .bad
theorem noX_ok {r : R Vl} (h : noX r ≠ .bad) : r = noX r ∧ ∀ c δ, noX r ≠ .ex c δ := by
  cases r with
  | ok v δ => exact ⟨rfl, fun c δ e => by cases e⟩
  | ex c δ => exact absurd rfl h
  | bad => exact absurd rfl h
theorem dsp_trim {K : PySem.W.Frag} {den : List Sl → R Vl} {vs : List V} {H : Hp} {Q : VK} {E : XK} (h : dsp K (fun as => noEx as (den as)) vs H Q E) : dsp K (fun as => noX (den as)) vs H Q E := by
  obtain ⟨F, as, fh, wa, h⟩ := h
  refine ⟨F, as, fh, wa, ?_⟩
  have h : dspM K F as vs H Q E (noEx as (den as)) := h
  show dspM K F as vs H Q E (noX (den as))
  cases e : den as with
  | bad => rw [e] at h; exact h.elim
  | ex c δ => rw [e] at h; exact h.elim
  | ok v δ =>
    rw [e] at h
    intro u F' H' P r
    refine h u F' H' ⟨P.ff, P.fh, P.hh, P.fn, fun i c p h1 h2 => ?_⟩ r
    obtain ⟨c', o', g1, g2⟩ := P.ar i c p h1 h2
    exact ⟨c', o', trim_at h1 g1, g2⟩
section
variable {P : Program} {w : World} {K : PySem.W.Frag} {mg : Str → Option Value} {base : Heap}
theorem fn_n {x qual : Str} {st : Stmt} {f : Addr} {fd : FuncData} {N ps : List Str} {k : Nat} {sd : Ds} (Fu : Fun K x qual st f fd) (S : FnScope N ps (defScope st))
    (hb : ∀ (cdv : Value) (A : Around) (outer : List Env) (s : Shared) (H : Hp) (E : XK), Room k (A.deeper (envOfC qual (defScope st) s.heap.objs.size f cdv)) → PSs (cxOf CX0 P w K mg base N qual (defScope st) f cdv A outer s H E).nox (defBody st) (ups (noxC K) sd)) :
    FnOk P w K mg base CX0 (k + 1) f fd ps (dsp K fun as => noEx as (runDef ps.length N.length sd as)) := (fn_d Fu S hb (fun as => noX (runDef ps.length N.length sd as)) fun as h => noX_ok h).imp fun _ _ _ _ h => dsp_trim h
/-- what stands of a def at its name -/
structure Dfn (K : PySem.W.Frag) (mg : Str → Option Value) (x : Str) (st : Stmt) (ps : List Str) : Prop where
  ex : ∃ (f : Addr) (fd : FuncData), Fun K x x st f fd ∧ mg x = some (.ref f) ∧ PySem.W.keepIn K (.ref f) = true ∧ Binds K fd ps []
theorem cal_of {x : Str} {st : Stmt} {ps : List Str} {k : Nat} {den : List Sl → R Vl} (D : Dfn K mg x st ps) (h : ∀ (f : Addr) (fd : FuncData), Fun K x x st f fd → FnOk P w K mg base CX0 k f fd ps (dsp K den)) : Cal P w K mg base k x ps den := by
  obtain ⟨f, fd, F, a, b, c⟩ := D.ex
  exact ⟨f, fd, h f fd F, a, b, c⟩
theorem law_sp {H : Hp} {a : Addr} {ns : List Int} {den : List Sl → R Vl} {E : XK} {Q : VK} (hS : SqL K H a (ns.map V.int)) (hT : TabF H) (h : ∃ δ, den [.fz (.dict [(.none, .list (ns.map PyData.int))])] = .ok (.fz (.bool true)) δ) (hQ : ∀ H', Q (.bl true) H') : dsp K den [.ref a] H Q E := by
  obtain ⟨δ, e⟩ := h
  refine ⟨H, [.fz (.dict [(.none, .list (ns.map PyData.int))])], Same.refl H, ⟨rfl, fun i s ei => ?_, fun i j c d p hij e1 e2 _ _ => ?_, hT⟩, ?_⟩
  · cases i with
    | zero => cases ei; exact ⟨_, rfl, .scr hS⟩
    | succ i => simp at ei
  · cases i with
    | zero => cases e1
    | succ i => simp at e1
  · rw [e]
    intro v F' H' _ r
    cases r
    exact hQ H'
end
/-- how often a while goes on at most -/
def fuelW : Nat := 100000
/-- how deep a def calls itself at most -/
def fuelR : Nat := 20
/-- a def that calls itself: how deep -/
def itN (f : (List Sl → R Vl) → List Sl → R Vl) : Nat → List Sl → R Vl
  | 0 => fun _ => .bad
  | n + 1 => f (itN f n)
end DL

set_option Elab.async false
set_option linter.all false
set_option maxRecDepth 100000
set_option autoImplicit false
/-! what is shown by repr, and a law whose own rows show something: nothing may be under way of being shown around it -/
namespace DL
open PySem PySem.Spec PyProof.Rows L2
variable [Tabs]
/-! ### repr -/
def isSq : D → Bool
  | .list _ => true
  | .tuple _ => true
  | _ => false
def okShow (d : D) : Bool := d.layable0 && d.showable && d.intsShort 13 && !d.hasDict
def fRepr (d : D) : Option Vl := okO (isSq d && okShow d) (some (.fz (.str d.shown)))
def rShow (K : PySem.W.Frag) : List V → Hp → VK → Prop := fun vs H Q => ∃ (p : Addr) (d : D), vs = [V.ref p] ∧ L2.Dp K H (.ref p) d ∧ okShow d = true ∧ Q (.str d.shown) H
section
variable {X : Cx} {C : Cf} {e a b : Expr} {ta tb : De} {pos : Pos} {k : Nat}
theorem lay_parts {d : D} (h : d.layable0 = true) : d.canLay0 = true ∧ d.depth ≤ 64 := by
  unfold PyData.layable0 at h
  rw [Bool.and_eq_true, Bool.and_eq_true] at h
  exact ⟨h.1.1, of_decide_eq_true h.1.2⟩
theorem call_show (hg : X.A.guards = some []) (hu : X.A.units + 100 < cLine) : CallR X (.builtin "repr") (rShow X.K) := by
  intro pins s σ H vs us Q I r h
  obtain ⟨p, d, rfl, hd, ho, q⟩ := h
  unfold okShow at ho
  rw [Bool.and_eq_true, Bool.and_eq_true, Bool.and_eq_true] at ho
  obtain ⟨⟨⟨o1, o2⟩, o3⟩, o4⟩ := ho
  have od : d.hasDict = false := by simpa using o4
  obtain ⟨c1, c2⟩ := lay_parts o1
  rw [Vals.ref1 r]
  obtain ⟨as, ra⟩ := L2.Dp.reads I d _ _ hd (show RelV (.ref p) (.ref p) from rfl)
  exact PySem.repr_of_reads' ra o2 (fun z => by rw [od] at z; cases z) hg (by omega) (fun _ _ z => z) (fun h' u tk hk => ⟨.str d.shown, H, I.kept hk, ⟨_, rfl⟩, q⟩) (PySem.PyData.shown_fits_of_layable0 (B := 13) (by decide) (by decide) o1 o3)
theorem b_show {K : PySem.W.Frag} : B1 K (rShow K) fRepr := by
  intro G δ σ F H x d z Q hK k hx ez q
  subst hK
  unfold fRepr at ez
  cases eo : (isSq d && okShow d) with
  | false => rw [eo] at ez; cases ez
  | true =>
    rw [eo] at ez
    cases ez
    rw [Bool.and_eq_true] at eo
    obtain ⟨e1, e2⟩ := eo
    have c0 : d.canLay0 = true := by
      have e3 := e2
      unfold okShow at e3
      rw [Bool.and_eq_true, Bool.and_eq_true, Bool.and_eq_true] at e3
      exact (lay_parts e3.1.1.1).1
    have hd := hx.dp k.fh
    have : ∃ p, x = .ref p := by
      cases d with
      | list ds => obtain ⟨p, vs, rfl, _⟩ := hx.list k.fh; exact ⟨p, rfl⟩
      | tuple ds => obtain ⟨p, vs, rfl, _⟩ := hx.tup; exact ⟨p, rfl⟩
      | _ => cases e1
    obtain ⟨p, rfl⟩ := this
    exact ⟨p, d, rfl, dp_lib d _ c0 hd, e2, q.fz k (.str _)⟩
theorem pd_repr {p : Pos} (hm : X.mg "repr" = none) (hg : X.A.guards = some []) (hr : Room k X.A) (ha : PE X e (up C ta)) (hK : C.K = X.K := by rfl) (hcall : ∀ (r : List V → Hp → VK → Prop) (te : TE), X.mg "repr" = none → CallR X (.builtin "repr") r → PE X e te → PE X (.Call (.Name "repr" p) [e] [] pos) (tCB r (tCons te tNil)) := by exact fun _ _ hm0 h1 h2 => pe_callB h1 (by rfl) hm0 (by decide +kernel) (pa_cons h2 pa_nil)) :
    PE X (.Call (.Name "repr" p) [e] [] pos) (up C (dUn fRepr ta)) := pe_weak (hcall _ _ hm (call_show hg (by have := hr.un; omega)) ha) (by rw [← hK]; exact rf_b1 b_show)
/-! ### texts that are alike or not -/
def fNeS : D → D → Option Vl
  | .str x, .str y => some (.fz (.bool (!decide (x = y))))
  | _, _ => none
theorem o_neS {K : PySem.W.Frag} : Op2 K rNe fNeS := by
  intro G δ σ F H x y d e z Q hK k hx hy ez q
  cases d with
  | str i =>
    cases e with
    | str j =>
      have e1 := hx.str
      have e2 := hy.str
      subst e1 e2
      cases ez
      refine ⟨rfl, ?_⟩
      have := q.fz k (.bl _)
      rw [show (decide (V.str i = V.str j)) = decide (i = j) from by simp]
      exact this
    | _ => cases ez
  | _ => cases ez
theorem pd_neS (ha : PE X a (up C ta)) (hb : PE X b (up C tb)) : PE X (.Compare a [.NotEq] [b] pos) (up C (dBin fNeS ta tb)) := pd_cmp op_ne o_neS ha hb (nomark _)
theorem ptd_neS (ha : PE X a (up C ta)) (hb : PE X b (up C tb)) : PT X (.Compare a [.NotEq] [b] pos) (upT C (dTest (dBin fNeS ta tb))) := pdt_cmp op_ne o_neS ha hb (nomark _)
end
section
variable {P : Program} {w : World} {K : PySem.W.Frag} {mg : Str → Option Value} {base : Heap} {k j : Nat} {x : Str} {st : Stmt} {ps : List Str} {den : List Sl → R Vl}
theorem Cal.mono (c : Cal P w K mg base j x ps den) (h : j ≤ k) : Cal P w K mg base k x ps den := by
  obtain ⟨f, fd, F, a, b, d⟩ := c.ex
  exact ⟨f, fd, F.mono h, a, b, d⟩
theorem dsp_bad {vs : List V} {H : Hp} {Q : VK} {E : XK} (h : dsp K (fun _ => .bad) vs H Q E) : False := by
  obtain ⟨F, as, fh, wa, h⟩ := h
  exact h
theorem cal_none (D : Dfn K mg x st ps) : Cal P w K mg base k x ps (fun _ => .bad) := cal_of D fun f fd _ => ⟨fun vs H Q E h => (dsp_bad h).elim, fun A outer s H args us vs Q E _ _ _ _ h => (dsp_bad h).elim⟩
end
end DL

set_option Elab.async false
set_option linter.all false
set_option maxRecDepth 100000
set_option autoImplicit false
namespace DL
open PySem PySem.Spec PyProof.Rows L2
variable [Tabs]
/-! ### a def that is called where nothing is being shown -/
section
variable {P : Program} {w : World} {K : PySem.W.Frag} {mg : Str → Option Value} {base : Heap}
/-- a def's promise at calls around which nothing is being shown -/
structure FnQ (P : Program) (w : World) (K : PySem.W.Frag) (mg : Str → Option Value) (base : Heap) (k : Nat) (f : Addr) (fd : FuncData) (ps : List Str) (sp : Sp) : Prop where
  arity : ∀ vs H Q E, sp vs H Q E → vs.length = ps.length
  go : ∀ (B : Around) (above : List Env) (t : Shared) (H : Hp) (given : Args) (us : List Value) (vs : List V) (Q : VK) (E : XK), B.guards = some [] → Room k B → Env0 P w K mg base B above t H → BindsTo t fd given (ps.zip us) →
    Vals vs us → sp vs H Q E → codeAny (model P w) B (.call (.ref f) given) (CR CX0 above P w H t Q E) t
theorem fnq_of {x qual : Str} {st : Stmt} {f : Addr} {fd : FuncData} {N ps : List Str} {k : Nat} {sp : Sp} (Fu : Fun K x qual st f fd) (S : FnScope N ps (defScope st)) (ar : ∀ vs H Q E, sp vs H Q E → vs.length = ps.length)
    (hb : ∀ (cdv : Value) (B : Around) (above : List Env) (t : Shared) (H : Hp) (vs : List V) (Q : VK) (E : XK), B.guards = some [] → Room k (B.deeper (envOfC qual (defScope st) t.heap.objs.size f cdv)) → sp vs H Q E →
      ∃ r, PSs (cxOf CX0 P w K mg base N qual (defScope st) f cdv B above t H E).nox (defBody st) r ∧ r { nx := fun _ H' => Q .non H', rt := Q } (start N vs) H) : FnQ P w K mg base (k + 1) f fd ps sp := by
  obtain ⟨oc, od, kV, doc, pm, an, cdv, ct, osl, rfl, lk, hcd⟩ := Fu.ex
  refine ⟨ar, fun B above t H given us vs Q E hg hr e0 bt rv hs => ?_⟩
  have hn := ar _ _ _ _ hs
  have KX : K.In t.heap := e0.mod.kin.keeps fun b o z => (e0.bs b o z).1
  have nl : t.heap.NoLimit := e0.mod.nolimit.keeps fun b o z => (e0.bs b o z).1
  refine codeAny_call_function hr.depth (KX _ _ lk) rfl S.co S.gen rfl (PySem.W.codeRec_of KX hcd) (bt _ _ _ _ ?_)
  refine wpAny_newFunctionEnv_cells S.kind (fun ⟨n, v⟩ hy => ?_) fun env he t1 y => ?_
  · rcases S.par n (List.of_mem_zip hy).1 with z | z
    · exact .inl z
    · exact .inr ⟨z, PySem.W.cellsFrom_some _ _ _ (.inl z)⟩
  · subst he
    refine ⟨nl.keeps y.toInCall.keep, codeAny_func ?_⟩
    obtain ⟨r, hr1, hr2⟩ := hb cdv B above t H vs Q E hg (hr.deeper _) hs
    have I0 := inv_start (CX := CX0) (E := E) S hr.hd e0 hn rv y
    refine wpAny_mono (hr1.nox.run [] t1 (start N vs) H _ I0 hr2) (fun fl t2 hq => ?_) fun c t2 hq => hq
    cases fl with
    | brk => obtain ⟨_, _, _, z⟩ := hq; exact z.elim
    | cont => obtain ⟨_, _, _, z⟩ := hq; exact z.elim
    | ret u =>
      obtain ⟨v, σ1, H1, J, z, q⟩ := hq
      exact ⟨v, H1, J.os, J.bare, J.base, J.hok, z, q⟩
    | next =>
      obtain ⟨σ1, H1, J, q⟩ := hq
      exact ⟨V.non, H1, J.os, J.bare, J.base, J.hok, rfl, q⟩
/-- .. that raises nothing, by its body over data -/
theorem fnq_n {x qual : Str} {st : Stmt} {f : Addr} {fd : FuncData} {N ps : List Str} {k : Nat} {sd : Ds} (Fu : Fun K x qual st f fd) (S : FnScope N ps (defScope st))
    (hb : ∀ (cdv : Value) (B : Around) (above : List Env) (t : Shared) (H : Hp) (E : XK), B.guards = some [] → Room k (B.deeper (envOfC qual (defScope st) t.heap.objs.size f cdv)) → PSs (cxOf CX0 P w K mg base N qual (defScope st) f cdv B above t H E).nox (defBody st) (ups (noxC K) sd)) :
    FnQ P w K mg base (k + 1) f fd ps (dsp K fun as => noEx as (runDef ps.length N.length sd as)) := by
  have conv : ∀ vs H Q E, dsp K (fun as => noEx as (runDef ps.length N.length sd as)) vs H Q E → dsp K (runDef ps.length N.length sd) vs H Q E0 := fun vs H Q E h => by
    obtain ⟨F, as, fh, wa, h⟩ := dsp_trim h
    have h : dspM K F as vs H Q E (noX (runDef ps.length N.length sd as)) := h
    have nb : noX (runDef ps.length N.length sd as) ≠ .bad := fun z => by rw [z] at h; exact h
    obtain ⟨e, ne⟩ := noX_ok nb
    refine ⟨F, as, fh, wa, ?_⟩
    rw [e]
    cases ed : noX (runDef ps.length N.length sd as) with
    | ok r δ => rw [ed] at h; exact h
    | ex c δ => exact absurd ed (ne c δ)
    | bad => exact absurd ed nb
  refine fnq_of Fu S (fun vs H Q E h => dsp_len (conv vs H Q E h)) fun cdv B above t H vs Q E hg hr h => ⟨_, hb cdv B above t H E hg hr, ?_⟩
  exact ends_of (C := noxC K) (fun _ _ _ z => z) rfl (conv vs H Q E h)
end
end DL

set_option Elab.async false
set_option linter.all false
set_option maxRecDepth 100000
set_option autoImplicit false
namespace DL
open PySem PySem.Spec PyProof.Rows L2
variable [Tabs]
section
variable {P : Program} {w : World} {K : PySem.W.Frag} {mg mb : Str → Option Value} {k : Nat} {fa a : Addr} {fd : FuncData} {x : Str} {sp : Sp} {t : Shared} {vs : List Value} {ns : List Int}
/-- what the outermost call of a law comes to -/
abbrev Tells (t : Shared) : Result → Shared → Prop := fun r t' => r = .ok (.ret (.bool true)) ∧ OldK t.heap t'.heap ∧ t'.os = t.os ∧ AllBare t'.gens
theorem top_core (KX : K.In t.heap) (g1 : t.heap.Ns mainGlobals mg) (g2 : t.heap.Ns builtinsNs mb) (g3 : ∀ y : Str, y ≠ "__name__" → mb y = bootBuiltins y) (g4 : t.heap.NoLimit) (g5 : t.gens = #[])
    (la : t.heap.get? a = some { cls := .type "list", data := .seq vs.toArray }) (hr : Room k callerA) (F : ∀ base : Heap, K.In base → base.Ns mainGlobals mg → FnQ P w K mg base k fa fd [x] sp)
    (bd : ∀ (s : Shared) (u : Value), BindsTo s fd ⟨[u], []⟩ [(x, u)]) {H : Hp} (only : Only H) (one : ∀ b, H b ≠ none → b = a) (ok : HOk P w H t.heap) (out : H a ≠ none → K.lookup a = none)
    (hs : sp [.ref a] H (fun v _ => v = .bl true) fun _ _ _ => False) : codeAny (model P w) callerA (.call (.ref fa) ⟨[.ref a], []⟩) (Tells t) t := by
  have stay : ∀ {b : Addr} {o : Obj}, t.heap.get? b = some o → H b = none → (hidT t.heap H).get? b = some o := fun z n => hidT_get z n
  have none_of : ∀ {b : Addr} {o : Obj} {es : Array DictEntry} {ep : Nat}, t.heap.get? b = some o → o.data = .dict es ep → H b = none := fun {b o es ep} z d => by
    rcases hc : H b with _ | u
    · rfl
    · obtain rfl := one b (by rw [hc]; exact fun z => nomatch z)
      rw [la] at z
      cases z
      exact nomatch (show Data.seq vs.toArray _ = Data.dict es ep from d)
  have names : ∀ {b : Addr} {m : Str → Option Value}, t.heap.Ns b m → (hidT t.heap H).Ns b m := fun {b m} ⟨o, es, ep, z, d, r⟩ => ⟨o, es, ep, stay z (none_of z d), d, r⟩
  have kin : K.In (hidT t.heap H) := fun b o z => by
    refine stay (KX b o z) ?_
    rcases hc : H b with _ | u
    · rfl
    · obtain rfl := one b (by rw [hc]; exact fun z => nomatch z)
      rw [out (by rw [hc]; exact fun z => nomatch z)] at z
      cases z
  have md : Mod K mg (hidT t.heap H) := by
    obtain ⟨mc, h1, h2⟩ := g4
    exact ⟨kin, names g1, ⟨mb, names g2, g3⟩, ⟨mc, names h1, h2⟩⟩
  have e0 : Env0 P w K mg (hidT t.heap H) callerA [] t H := by
    refine ⟨rfl, md, fun b o z => of_hidT z, Nat.le_of_eq (hidT_size _ _), trivial, fun b hb => ?_, ok, .of_eq g5⟩
    exact nomatch (show b ∈ ([] : List Addr) from hb)
  have run := (F _ kin (names g1)).go callerA [] t H ⟨[.ref a], []⟩ [.ref a] [.ref a] _ _ rfl hr e0 (bd t (.ref a)) (.cons rfl .nil) hs
  refine codeAny_mono run fun r t' hq => ?_
  rcases r with e | fl
  · exact False.elim hq
  · rcases fl with _ | _ | _ | u
    · exact False.elim hq
    · exact False.elim hq
    · exact False.elim hq
    · obtain ⟨v, H', q1, q2, un, ok', rv, q3⟩ := hq
      have q3 : v = .bl true := q3
      subst q3
      have rv : u = Value.bool true := rv
      subst rv
      refine ⟨rfl, OldK.of_keep fun b o z => ?_, q1, q2⟩
      rcases hc : H b with _ | y
      · exact un.keep b o z hc (fun n => nomatch (show b ∈ ([] : List Addr) from n)) (by simp)
      · rcases only b with n | ⟨ob, xs, n⟩
        · rw [hc] at n
          cases n
        · obtain ⟨z1, _⟩ := ok b _ n
          obtain ⟨z2, _⟩ := ok' b _ (un.frzs b ob _ n)
          rw [z] at z1
          cases z1
          exact z2
theorem top_call (KX : K.In t.heap) (g1 : t.heap.Ns mainGlobals mg) (g2 : t.heap.Ns builtinsNs mb) (g3 : ∀ y : Str, y ≠ "__name__" → mb y = bootBuiltins y) (g4 : t.heap.NoLimit) (g5 : t.gens = #[])
    (la : t.heap.get? a = some { cls := .type "list", data := .seq vs.toArray }) (iv : IntsAre vs ns) (hl : ns.length ≤ sizeLine) (hr : Room k callerA) (F : ∀ base : Heap, K.In base → base.Ns mainGlobals mg → FnQ P w K mg base k fa fd [x] sp)
    (bd : ∀ (s : Shared) (u : Value), BindsTo s fd ⟨[u], []⟩ [(x, u)]) (hs : ∀ H : Hp, Only H → SqL K H a (ns.map V.int) → sp [.ref a] H (fun v _ => v = .bl true) fun _ _ _ => False) :
    codeAny (model P w) callerA (.call (.ref fa) ⟨[.ref a], []⟩) (Tells t) t := by
  have rv := vals_ints iv
  have lv := iv.length
  rcases hk : K.lookup a with _ | o
  · let H : Hp := fun b => if b = a then some (.frz { cls := .type "list", data := .seq vs.toArray } (.lst (ns.map V.int))) else none
    have at_a : H a = some (.frz { cls := .type "list", data := .seq vs.toArray } (.lst (ns.map V.int))) := if_pos rfl
    have not_a : ∀ b, b ≠ a → H b = none := fun b hb => if_neg hb
    have only : Only H := fun b => by
      by_cases hb : b = a
      · exact .inr ⟨_, _, by rw [hb]; exact at_a⟩
      · exact .inl (not_a b hb)
    refine top_core KX g1 g2 g3 g4 g5 la hr F bd only (fun b n => ?_) (fun b u z => ?_) (fun _ => hk) (hs H only (.inl (.inr ⟨_, at_a⟩)))
    · by_cases hb : b = a
      · exact hb
      · exact absurd (not_a b hb) n
    · by_cases hb : b = a
      · subst hb
        rw [at_a] at z
        cases z
        exact ⟨la, by rw [List.length_map]; exact hl, vs, _, rv, la⟩
      · rw [not_a b hb] at z
        cases z
  · have z := KX a o hk
    rw [la] at z
    cases z
    have only : Only fun _ => none := fun _ => .inl rfl
    refine top_core KX g1 g2 g3 g4 g5 la hr F bd only (fun b n => absurd rfl n) (fun b u z => nomatch (show (none : Option HO) = some u from z)) (fun n => absurd rfl n) (hs _ only ?_)
    exact .inr ⟨_, vs.toArray, _, hk, rfl, rfl, rfl, by rw [List.size_toArray, lv]; exact hl, by simpa using rv⟩
end
/-- a law's end, where its own rows show something -/
theorem walk_q {l : PySem.W.OpenLaw} {n k : Nat} {q : Program} {loose : List Str} {XP : (Str → Option Value) → Heap → Prop} {YP : World → Heap → Prop} {d : DefRec} {K : Params → PySem.W.Frag} {sp : World → Sp} {x : Str}
    (hn : l.most = some n) (h2 : n ≤ sizeLine) (hd : d.params.defaults = []) (hr : Room k callerA) (hY : ∀ (w : World) (h : Heap), YP w h → (K w.params).In h)
    (F : ∀ (w : World) (mg : Str → Option Value) (fa : Addr) (h : Heap), (K w.params).In h → h.Ns mainGlobals mg → mg d.name = some (.ref fa) →
      ∃ fd : FuncData, (∀ (s : Shared) (u : Value), BindsTo s fd ⟨[u], []⟩ [(x, u)]) ∧ ∀ base : Heap, (K w.params).In base → base.Ns mainGlobals mg → FnQ l.prog w (K w.params) mg base k fa fd [x] (sp w))
    (hs : ∀ (w : World) (H : Hp) (a : Addr) (ns : List Int), ns.length ≤ n → Only H → SqL (K w.params) H a (ns.map V.int) → sp w [.ref a] H (fun v _ => v = .bl true) fun _ _ _ => False) :
    PySem.W.WalkO q loose XP YP l.row.toRowW d [] (fun f vs => PySem.call f vs) := by
  refine Att.attach_call hn hd fun w s0 t mg mb fa o pm cd doc a vs ns G Y ho hf hc hm la iv len hg => ?_
  obtain ⟨fd, bd, Fn⟩ := F w mg fa _ (hY w _ Y) G.T.g hm
  exact top_call (hY w _ Y) G.T.g G.T.b G.T.builtins G.T.nolimit hg la iv (Nat.le_trans len h2) hr Fn bd fun H only z => hs w H a ns len only z
end DL

set_option Elab.async false
set_option linter.all false
set_option maxRecDepth 100000
set_option autoImplicit false
/-! errors over data: raise, defs that may raise, calls of them -/
namespace DL
open PySem PySem.Spec PyProof.Rows L2
variable [Tabs]
/-- an error as it is told here: its class by its name -/
abbrev exV (x : Str) : Value := .str x 0
/-- what is wanted of such an error: what is wanted of one of the class of that name -/
def exC (K : PySem.W.Frag) (mg : Str → Option Value) (W : WX) : Cf := ⟨K, fun σ c d H => ∃ x Cl, c = exV x ∧ mg x = some (.ref Cl) ∧ W (.ref Cl) d σ H⟩
def symE (mg : Str → Option Value) (E : XK) : XK := fun c d H => ∃ x Cl, c = exV x ∧ mg x = some (.ref Cl) ∧ E (.ref Cl) d H
def dspX (K : PySem.W.Frag) (mg : Str → Option Value) (den : List Sl → R Vl) : Sp := fun vs H Q E => dsp K den vs H Q (symE mg E)
/-- a class of errors over ValueError, in whose name nothing but the text is handed on -/
structure ErrC (K : PySem.W.Frag) (mg : Str → Option Value) (x : Str) : Prop where
  ex : ∃ Cl, mg x = some (.ref Cl) ∧ PySem.W.excIn K Cl [.type "ValueError", .type "Exception", .type "BaseException", .type "object"] "ValueError.__new__" = true ∧ PySem.W.keepIn K (.ref Cl) = true ∧ PySem.W.subIn K (.ref Cl) (.type "BaseException") = some true ∧ PySem.W.typeIn K (.ref Cl) = some (.type "type")
def dRaise (x : Str) : Ds := fun δ => .ex (exV x) δ
section
variable {X : Cx} {C : Cf} {W : WX} {e a b c : Expr} {ta tb tc : De} {pos : Pos} {k : Nat} {ps : List Str} {x : Str}
theorem pds_raise {m : Str} {j : Nat} {p p2 pos' : Pos} (x : Str) (F : ErrC X.K X.mg x) (tk : Takes X W) (hc : X.calm = true := by rfl) (hg : Gl X x := by rfl) (hdb : (x == ("__debug__" : Str)) = false := by decide) :
    PS X (.Raise (some (.Call (.Name x p) [.Constant (.str m) j p2] [] pos)) none pos') (ups (exC X.K X.mg W) (dRaise x)) := by
  obtain ⟨Cl, gC, xP, kC, bP, tP⟩ := F.ex
  refine ps_weak (ps_raise hc tk (pmk_own PySem.F.excBase_ValueError xP gC kC (raises_own bP tP) hg hdb)) fun D σ H ⟨G, δ, F, hC, k, h⟩ => ?_
  have h1 : G.C.E σ (exV x) none H := h σ F H k (Same.refl F)
  rw [hC] at h1
  obtain ⟨y, Cy, e1, e2, e3⟩ := h1
  cases e1
  rw [gC] at e2
  cases e2
  exact e3
/-- a def that stands at its name and keeps its promise, errors too -/
structure CalX (P : Program) (w : World) (K : PySem.W.Frag) (mg : Str → Option Value) (base : Heap) (k : Nat) (x : Str) (ps : List Str) (den : List Sl → R Vl) : Prop where
  ex : ∃ (f : Addr) (fd : FuncData), FnOk P w K mg base (L2.CX P w) k f fd ps (dspX K mg den) ∧ mg x = some (.ref f) ∧ PySem.W.keepIn K (.ref f) = true ∧ Binds K fd ps []
theorem pd_calX {es : List Expr} {p : Pos} {den : List Sl → R Vl} {al : Da} (F : CalX X.prog X.w X.K X.mg X.base k x ps den) (hr : Room k X.A) (tk : Takes X W) (ha : PA X (e :: es) (upA (exC X.K X.mg W) al)) (hg : Gl X x := by rfl) (hdb : (x == ("__debug__" : Str)) = false := by decide)
    (he : starEach (e :: es) X.env = (false, eval e X.env) :: starEach es X.env := by rfl) (hpl : (backTo pos (starEach es X.env)).any (·.1) = false := by rfl) :
    PE X (.Call (.Name x p) (e :: es) [] pos) (up (exC X.K X.mg W) (dCall den al)) := by
  obtain ⟨f, fd, Fn, hm, hk, hb⟩ := F.ex
  refine pe_weak (pe_callS Fn hr hg hm hk hb (fun σ => passAt tk σ) ha hdb he hpl) fun σ H Q ⟨G, δ, F, hC, k, h⟩ => ?_
  refine ⟨G, δ, F, hC, k, finA_bind h fun ams δ1 vs F1 H1 k1 g1 w1 h1 => ?_⟩
  have w1 : Paired (fun v a => AmOk G σ F1 v a) vs ams := w1
  obtain ⟨z, h2⟩ := okIf_fin h1
  rw [Bool.and_eq_true] at z
  have hK : G.K = X.K := by show G.C.K = _; rw [hC]; rfl
  refine ⟨F1, ams.map (amSl δ1), k1.fh, by rw [← hK]; exact args_of k1 w1 z.1 z.2, ?_⟩
  unfold callM at h2
  cases ed : den (ams.map (amSl δ1)) with
  | ok r δ' =>
    rw [ed] at h2
    intro v F' H' P w
    rw [← hK] at P w
    exact h2 v F' H' (after_call k1 w1 z.1 z.2 P) P.ff (ret_val k1 w)
  | ex c δ' =>
    rw [ed] at h2
    intro F' H' P
    rw [← hK] at P
    have h3 : G.C.E σ c none H' := h2 F' H' (after_call k1 w1 z.1 z.2 P) P.ff
    rw [hC] at h3
    exact h3
  | bad => rw [ed] at h2; exact h2.elim
/-- a call of a def that raises nothing, among such as do -/
theorem pd_calN {es : List Expr} {p : Pos} {den : List Sl → R Vl} {al : Da} (F : Cal X.prog X.w X.K X.mg X.base k x ps den) (hne : ∀ as c δ, den as ≠ .ex c δ) (hr : Room k X.A) (ha : PA X (e :: es) (upA C al)) (hK : C.K = X.K := by rfl) (hg : Gl X x := by rfl) (hdb : (x == ("__debug__" : Str)) = false := by decide)
    (he : starEach (e :: es) X.env = (false, eval e X.env) :: starEach es X.env := by rfl) (hpl : (backTo pos (starEach es X.env)).any (·.1) = false := by rfl) :
    PE X (.Call (.Name x p) (e :: es) [] pos) (up C (dCall den al)) := by
  obtain ⟨f, fd, Fn, hm, hk, hb⟩ := F.ex
  refine pe_weak (pe_call (CX := CX0) (E := E0) Fn hr hg hm hk hb .nil pass0 ha hdb he hpl) fun σ H Q ⟨G, δ, F, hC, k, h⟩ => ?_
  subst hC
  refine ⟨G, δ, F, rfl, k, finA_bind h fun ams δ1 vs F1 H1 k1 g1 w1 h1 => ?_⟩
  have w1 : Paired (fun v a => AmOk G σ F1 v a) vs ams := w1
  obtain ⟨z, h2⟩ := okIf_fin h1
  rw [Bool.and_eq_true] at z
  rw [List.append_nil]
  refine ⟨F1, ams.map (amSl δ1), k1.fh, by rw [← hK]; exact args_of k1 w1 z.1 z.2, ?_⟩
  unfold callM at h2
  cases ed : den (ams.map (amSl δ1)) with
  | ok r δ' =>
    rw [ed] at h2
    intro v F' H' P w
    rw [← hK] at P w
    exact h2 v F' H' (after_call k1 w1 z.1 z.2 P) P.ff (ret_val k1 w)
  | ex c δ' => exact absurd ed (hne _ c δ')
  | bad => rw [ed] at h2; exact h2.elim
end
def exEx (as : List Sl) (r : R Vl) : R Vl := match r with
  | .ok v δ => .ok v (trim as δ)
  | .ex c δ => .ex c (trim as δ)
  | .bad => .bad
theorem noEx_ne (as : List Sl) (r : R Vl) (c : Value) (δ : DS) : noEx as r ≠ .ex c δ := by
  cases r <;> intro h <;> cases h
theorem dsp_trimX {K : PySem.W.Frag} {den : List Sl → R Vl} {vs : List V} {H : Hp} {Q : VK} {E : XK} (h : dsp K (fun as => exEx as (den as)) vs H Q E) : dsp K den vs H Q E := by
  obtain ⟨F, as, fh, wa, h⟩ := h
  refine ⟨F, as, fh, wa, ?_⟩
  have h : dspM K F as vs H Q E (exEx as (den as)) := h
  have back : ∀ {δ : DS} {F' H' : Hp}, PostOk K F H vs as δ F' H' → PostOk K F H vs as (trim as δ) F' H' := fun P => ⟨P.ff, P.fh, P.hh, P.fn, fun i c p h1 h2 => by
    obtain ⟨c', o', g1, g2⟩ := P.ar i c p h1 h2
    exact ⟨c', o', trim_at h1 g1, g2⟩⟩
  cases e : den as with
  | bad => rw [e] at h; exact h.elim
  | ex c δ =>
    rw [e] at h
    exact fun F' H' P => h F' H' (back P)
  | ok v δ =>
    rw [e] at h
    exact fun u F' H' P r => h u F' H' (back P) r
section
variable {P : Program} {w : World} {K : PySem.W.Frag} {mg : Str → Option Value} {base : Heap}
theorem fn_x {x qual : Str} {st : Stmt} {f : Addr} {fd : FuncData} {N ps : List Str} {k : Nat} {sd : Ds} (Fu : Fun K x qual st f fd) (S : FnScope N ps (defScope st))
    (hb : ∀ (cdv : Value) (A : Around) (outer : List Env) (s : Shared) (H : Hp) (E : XK), Room k (A.deeper (envOfC qual (defScope st) s.heap.objs.size f cdv)) → PSs (cxOf (L2.CX P w) P w K mg base N qual (defScope st) f cdv A outer s H E) (defBody st) (ups (exC K mg fun cls d _ H => E cls d H) sd)) :
    FnOk P w K mg base (L2.CX P w) (k + 1) f fd ps (dspX K mg fun as => exEx as (runDef ps.length N.length sd as)) := by
  refine Fu.okX S (fun vs H Q E h => dsp_len (dsp_trimX h)) fun cdv A outer s H vs Q E hr h => ⟨_, hb cdv A outer s H E hr, ?_⟩
  exact ends_of (C := exC K mg fun cls d _ H => E cls d H) (E := symE mg E) (fun _ _ _ z => z) rfl (dsp_trimX h)
theorem calX_of {x : Str} {st : Stmt} {ps : List Str} {k : Nat} {den : List Sl → R Vl} (D : Dfn K mg x st ps) (h : ∀ (f : Addr) (fd : FuncData), Fun K x x st f fd → FnOk P w K mg base (L2.CX P w) k f fd ps (dspX K mg den)) : CalX P w K mg base k x ps den := by
  obtain ⟨f, fd, F, a, b, c⟩ := D.ex
  exact ⟨f, fd, h f fd F, a, b, c⟩
theorem CalX.mono {x : Str} {ps : List Str} {j k : Nat} {den : List Sl → R Vl} (c : CalX P w K mg base j x ps den) (h : j ≤ k) : CalX P w K mg base k x ps den := by
  obtain ⟨f, fd, F, a, b, d⟩ := c.ex
  exact ⟨f, fd, F.mono h, a, b, d⟩
end
end DL

set_option Elab.async false
set_option linter.all false
set_option maxRecDepth 100000
set_option maxHeartbeats 2000000
set_option autoImplicit false
/-! an error that is caught and kept behind the except clause's suite -/
namespace DL
open PySem PySem.Spec PyProof.Rows L2
variable [Tabs]
section
variable {X : Cx} {pins : List (Addr × Obj)} {σ : L2.St} {H : Hp} {s : Shared}
/-- a thing that came up since the frame's beginning is tracked from now on -/
theorem Inv.track (I : Inv X pins σ H s) {a : Addr} {o : HO} (hn : H a = none) (h0 : X.s_0.heap.get? a = none) (nL : a ≠ X.env.locals) (nC : ∀ x c, X.env.cells.lookup x = some c → c ≠ a) (nP : ∀ p ∈ X.pn ++ pins, p.1 ≠ a)
    (new : ObjOk X.prog X.w (upd H a o) s.heap a o) : Inv X pins σ (upd H a o) s := by
  refine ⟨I.ok, I.os, I.bare, ⟨I.base.keep, I.base.slot, fun b u e n m => ?_, I.base.there, fun b xs e => ?_, fun b u v e => ?_, fun b ps e => ?_⟩, I.loc, I.cell, ?_, fun x c e => ?_, fun p hp => ?_, fun b u e => ?_, I.len⟩
  · rw [upd_ne (fun z => by subst z; rw [h0] at e; cases e)]
    exact I.base.free b u e n m
  · have q := I.base.tups b xs e
    rw [upd_ne (ne_of_none q hn)]; exact q
  · have q := I.base.frzs b u v e
    rw [upd_ne (ne_of_none q hn)]; exact q
  · obtain ⟨more, q⟩ := I.base.tbls b ps e
    exact ⟨more, by rw [upd_ne (ne_of_none q hn)]; exact q⟩
  · rw [upd_ne (Ne.symm nL)]; exact I.free
  · rw [upd_ne (nC x c e)]; exact I.freeC x c e
  · obtain ⟨p1, p2, p3, p4, p5⟩ := I.pin p hp
    exact ⟨p1, by rw [upd_ne (nP p hp)]; exact p2, p3, p4, p5⟩
  · by_cases hb : b = a
    · subst hb
      rw [upd_same] at e
      cases e
      exact new
    · rw [upd_ne hb] at e
      refine (I.hok b u e).stay (fun _ _ _ q => q) (fun c q => ?_) fun c xs q => ?_
      · rw [upd_ne (ne_of_none q hn)]; exact q
      · rw [upd_ne (ne_of_none q hn)]; exact q
end
/-- what is wished of an error in a body whose except clause keeps it -/
def wKeep (K : PySem.W.Frag) (c : Value) (i : Nat) (ts : TS) (D : Ends) : WX := fun cls d σ H =>
  d = none ∧ PySem.W.exmOne K cls c = some true ∧ ∀ a, H a = none → ts { nx := fun σ' H' => D.nx (σ'.set i none) H', rt := D.rt, bk := fun σ' H' => D.bk (σ'.set i none) H', ct := fun σ' H' => D.ct (σ'.set i none) H' } (σ.set i (some (.ref a))) (upd H a (ExH cls a))
section
variable {X : Cx} {x n : Str} {c : Value} {i : Nat} {body suite : List Stmt} {b₀ : Stmt} {np pos pos' : Pos} {tb : WX → TS} {ts : TS}
theorem ps_try_keep (hs : X.stack = X.env :: X.outer) (hf : X.env.frame = some X.env.locals) (hex : X.ex = []) (hN : X.N.Nodup) (hi : X.N[i]? = some n) (hln : X.env.kindOf n = some .local) (hc : Names X x c)
    (hb : ∀ (W : WX) (pn : List (Addr × Obj)) (xe : Value → Shared → Prop), Takes (X.tr pn xe) W → PassesOwn (model X.prog X.w) X.A X.env xe → PSs (X.tr pn xe) body (tb W))
    (hsu : ∀ (a : Addr) (pn : List (Addr × Obj)), PSs (X.suite a pn) (b₀ :: suite) ts) :
    PS X (.Try body [.ExceptHandler (some (.Name x np)) (some n) (b₀ :: suite) pos'] [] [] pos) (fun D σ H => tb (wKeep X.K c i ts D) D σ H) := by
  constructor
  intro pins s σ H D I h
  have hok := I.ok
  have hframes : X.A.frames = some (X.env :: X.outer) := by rw [hok.frames, hs]
  refine wpAny_Try_except (wpAny_mono ((hb (wKeep X.K c i ts D) (X.pn ++ pins) (fun v s1 => wpAny (model X.prog X.w) X.A (noteFrame v X.env) (fun _ s2 => wpAny (model X.prog X.w) X.A (setFlight v none) (fun _ s3 => wpAny (model X.prog X.w) X.A (handleBy v X.env [.ExceptHandler (some (.Name x np)) (some n) (b₀ :: suite) pos']) (SP X pins D) X.xe s3) X.xe s2) X.xe s1) (fun v t w => ?_) PassesOwn.looking).run [] s σ H D (I.toTry _) h) (fun f t w => ?_) (fun _ _ w => w))
  · obtain ⟨a, B, sI, pinsI, σI, HI, cls, d, rfl, JT, nb, up, sky, na, os, ag, rfl, hm, hyes⟩ := w
    have J : Inv X pins σI HI sI := JT.ofTry hok
    rw [hs] at sky
    refine Sky.land Zc.steady hframes hf sky fun h3 fl3 up3 => ?_
    have J3 : Inv X pins σI HI { t with heap := h3 } := J.landed nb fl3.1 (up.trans up3) os ag
    obtain ⟨o3, v3, e3, z3, d3⟩ := fl3.there
    -- a is no frame's and stood nowhere ahead
    have out : a ∉ frs (X.env :: X.outer) := fun hm => by
      obtain ⟨_, o', e', hnf⟩ := fl3.2.2.1.mem hm
      rw [e3] at e'
      cases e'
      exact hnf _ d3
    have aL : a ≠ X.env.locals := fun z => out (List.mem_filterMap.mpr ⟨X.env, List.mem_cons_self, by rw [hf, z]⟩)
    have aF : a ∉ X.fs := fun hm => by
      obtain ⟨e, he, q⟩ := List.mem_filterMap.mp hm
      exact out (List.mem_filterMap.mpr ⟨e, List.mem_cons_of_mem _ he, q⟩)
    have aI : sI.heap.get? a = none := by
      cases q : sI.heap.get? a with
      | none => rfl
      | some o =>
        have z := nb a o q (by rw [hs]; exact out)
        have z2 : B.get? a = none := fl3.2.1
        rw [z2] at z
        cases z
    have a0 : X.s_0.heap.get? a = none := by
      cases q : X.s_0.heap.get? a with
      | none => rfl
      | some o =>
        obtain ⟨o', z⟩ := J.base.there a o q (by rw [hex]; exact List.not_mem_nil)
        rw [aI] at z
        cases z
    have aC : ∀ y c, X.env.cells.lookup y = some c → c ≠ a := fun y c e z => by
      subst z
      obtain ⟨v, q⟩ := J.cell y c e
      obtain ⟨o', q, _⟩ := q
      rw [aI] at q
      cases q
    have aP : ∀ p ∈ X.pn ++ pins, p.1 ≠ a := fun p hp z => by
      have q := (J.pin p hp).1
      rw [z, aI] at q
      cases q
    have S3 := J3.suite e3 d3 na aL aF
    refine wpAny_handleBy_cons (codeAny_handlers_test ?_) (by intro q; cases q)
    have LT : PySem.W.Looks (model X.prog X.w) h3 (typeOf (.ref a)) cls := fun A Q E s k q => wpAny_typeOf_ref (k _ _ e3) (by rw [z3.1]; exact q)
    have LM := PySem.W.exm_one (M := model X.prog X.w) (J3.kIn) LT hm
    have test : ∀ {Q : Value → Shared → Prop} {E : Value → Shared → Prop}, Q c { t with heap := h3 } → wpAny (model X.prog X.w) (X.A.mark (some (.ref a))) (eval (.Name x np) X.env) Q E { t with heap := h3 } := by
      intro Q E q
      obtain ⟨g1, g2, g3 | ⟨g3, g4, g5⟩⟩ := hc
      · exact ld_glob (X := X.suite a ((a, o3) :: (X.pn ++ pins))) S3 g1 g3 q g2
      · exact ld_blt (X := X.suite a ((a, o3) :: (X.pn ++ pins))) S3 g1 g3 g4 q g5 g2
    refine test (LM.here (codeAny_handlers_suite_as (HandSPX.lands_againZ fl3 fun h4 fl4 up4 => ?_)))
    have J4 : Inv X pins σI HI { t with heap := h4 } := J.landed nb fl4.1 ((up.trans up3).trans up4) os ag
    obtain ⟨o4, v4, e4, z4, d4⟩ := fl4.there
    have new : ObjOk X.prog X.w (upd HI a (ExH cls a)) h4 a (ExH cls a) := ⟨⟨o4, v4, e4, z4, d4⟩, ⟨o4, e4⟩, fun _ _ ⟨o, v, q, r⟩ k => ⟨o, v, k o q, r⟩⟩
    have K4 := Inv.track J4 na a0 aL aC aP new
    have toS : ∀ {σ' : L2.St} {H' : Hp} {s' : Shared}, Inv X pins σ' H' s' → Inv (X.suite a (X.pn ++ pins)) [] σ' H' s' := fun I => ⟨I.ok.suite _ _, I.os, I.bare, I.base, I.loc, I.cell, I.free, I.freeC, fun p hp => I.pin p (by rw [List.append_nil] at hp; exact hp), I.hok, I.len⟩
    have ofS : ∀ {σ' : L2.St} {H' : Hp} {s' : Shared}, Inv (X.suite a (X.pn ++ pins)) [] σ' H' s' → Inv X pins σ' H' s' := fun I => ⟨hok, I.os, I.bare, I.base, I.loc, I.cell, I.free, I.freeC, fun p hp => I.pin p (List.mem_append_left _ hp), I.hok, I.len⟩
    refine store_ok (X := X.suite a (X.pn ++ pins)) (v := .ref a) (toS K4) hN hi (.inl hln) rfl (fun s5 S5 => ?_) (.inr hln)
    refine wpAny_mono ((hsu a (X.pn ++ pins)).run [] s5 _ _ _ S5 (hyes a na)) (fun f s6 hsp => ?_) (fun _ _ z => False.elim z)
    have fin : ∀ {σ6 : L2.St} {H6 : Hp} {Q : Shared → Prop}, Inv (X.suite a (X.pn ++ pins)) [] σ6 H6 s6 → (∀ s7, Inv X pins (σ6.set i none) H6 s7 → Q s7) →
        wpAny (model X.prog X.w) X.A (do bindName X.env n .none; unbindBehindTheSuite X.env n pos') (fun _ s7 => Q s7) X.xe s6 := fun S6 q => gone_ok (ofS S6) hN hi hln q
    cases f with
    | next => obtain ⟨σ6, H6, S6, q6⟩ := hsp; exact fin S6 fun s7 J7 => ⟨_, _, J7, q6⟩
    | brk => obtain ⟨σ6, H6, S6, q6⟩ := hsp; exact fin S6 fun s7 J7 => ⟨_, _, J7, q6⟩
    | cont => obtain ⟨σ6, H6, S6, q6⟩ := hsp; exact fin S6 fun s7 J7 => ⟨_, _, J7, q6⟩
    | ret u => obtain ⟨v6, σ6, H6, S6, r6, q6⟩ := hsp; exact fin S6 fun s7 J7 => ⟨_, _, _, J7, r6, q6⟩
  · cases f with
    | next => obtain ⟨σ', H', J', q⟩ := w; exact wpAny_execs_nil ⟨σ', H', J'.ofTry hok, q⟩
    | brk => obtain ⟨σ', H', J', q⟩ := w; exact ⟨σ', H', J'.ofTry hok, q⟩
    | cont => obtain ⟨σ', H', J', q⟩ := w; exact ⟨σ', H', J'.ofTry hok, q⟩
    | ret u => obtain ⟨v, σ', H', J', r, q⟩ := w; exact ⟨v, σ', H', J'.ofTry hok, r, q⟩
end
/-- isinstance(e, c), e an error that was caught and kept -/
def rIsX (K : PySem.W.Frag) : List V → Hp → VK → Prop := fun xs H Q => ∃ (a Cl : Addr) (v : V) (cv : Value) (b : Bool), xs = [.ref a, v] ∧ H a = some (ExH (.ref Cl) a) ∧ ExcC K Cl ∧ (∀ u, RelV v u → u = cv) ∧ PySem.W.kitOne K (.ref Cl) cv = some b ∧ Q (.bl b) H
theorem call_isX {X : Cx} : CallR X (.builtin "isinstance") (rIsX X.K) := by
  intro pins s σ H xs us Q I r h
  obtain ⟨a, Cl, v, cv, b, rfl, ha, C, hcv, e, q⟩ := h
  cases r with
  | cons rx rr =>
    cases rr with
    | cons rt rr =>
      cases rr
      cases rx
      rw [← hcv _ rt] at e
      obtain ⟨oe, vs, hget, hz, hv⟩ := (I.hok a _ ha).1
      have J : PySem.W.InstAt s.heap a oe Cl none := by
        obtain ⟨oc, od, oda, osl⟩ := oe
        obtain ⟨h1, h2⟩ := hz
        dsimp only at h1 h2 hv
        subst h1 h2 hv
        exact ⟨hget, rfl, rfl, trivial⟩
      exact PySem.W.kia_one (PySem.W.handS_kitx_exc C.hg C.hk C.hs C.hd C.ha C.hn C.ht C.hm) I.kIn J e (fun z => nomatch z) fun tk => ⟨.bl b, H, I.kept (t' := tk) fun _ _ z => z, rfl, q⟩
end DL

set_option Elab.async false
set_option linter.all false
set_option maxRecDepth 100000
set_option autoImplicit false
/-! a def that empties all lists within what it is given: its promise over plain things that lie in a part of the heap -/
namespace DL
open PySem PySem.Spec PyProof.Rows L2
variable [Tabs]
mutual
/-- all that lies within a thing, itself too -/
def subs : D → List D
  | .list ds => .list ds :: subsL ds
  | .tuple ds => .tuple ds :: subsL ds
  | d => [d]
def subsL : List D → List D
  | [] => []
  | d :: ds => subs d ++ subsL ds
end
mutual
/-- how deep lists and tuples lie within one another -/
def dep : D → Nat
  | .list ds => depL ds + 1
  | .tuple ds => depL ds + 1
  | _ => 0
def depL : List D → Nat
  | [] => 0
  | d :: ds => max (dep d) (depL ds)
end
theorem dep_mem : ∀ {ds : List D} {d : D}, d ∈ ds → dep d ≤ depL ds
  | [], _, h => by cases h
  | e :: ds, d, h => by
    unfold depL
    rcases List.mem_cons.mp h with z | z
    · subst z; exact Nat.le_max_left _ _
    · exact Nat.le_trans (dep_mem z) (Nat.le_max_right _ _)
theorem lay_mem : ∀ {ds : List D} {d : D}, PyData.canLayAll0 ds = true → d ∈ ds → d.canLay0 = true
  | [], _, _, h => by cases h
  | e :: ds, d, c, h => by
    have c : (e.canLay0 && PyData.canLayAll0 ds) = true := c
    rw [Bool.and_eq_true] at c
    rcases List.mem_cons.mp h with z | z
    · subst z; exact c.1
    · exact lay_mem c.2 z
/-- H holds what F holds, some of F's lists emptied -/
def Near (F H : Hp) : Prop := ∀ b o, F b = some o → H b = some o ∨ ((∃ xs, o = .lst xs) ∧ H b = some (.lst []))
/-- what stood at H stands at H', but for F's lists -/
def Past (F H H' : Hp) : Prop := ∀ b o, H b = some o → (∀ xs, F b ≠ some (.lst xs)) → H' b = some o
theorem Past.refl (F H : Hp) : Past F H H := fun _ _ h _ => h
theorem Past.trans {F H H1 H2 : Hp} (a : Past F H H1) (b : Past F H1 H2) : Past F H H2 := fun p o h n => b p o (a p o h n) n
theorem Near.new {F H : Hp} {p : Addr} {o : HO} (n : Near F H) (h : H p = none) : Near F (upd H p o) := fun b u e => by
  have hb : b ≠ p := fun z => by
    subst z
    rcases n b u e with q | ⟨_, q⟩ <;> rw [h] at q <;> cases q
  rw [upd_ne hb]
  exact n b u e
theorem Past.new {F H : Hp} {p : Addr} {o : HO} (h : H p = none) : Past F H (upd H p o) := fun b u e _ => by
  rw [upd_ne (ne_of_none e h)]
  exact e
theorem Near.clear {F H : Hp} {p : Addr} {xs : List V} (n : Near F H) (h : F p = some (.lst xs)) : Near F (upd H p (.lst [])) := fun b u e => by
  by_cases hb : b = p
  · subst hb
    rw [h] at e
    cases e
    exact .inr ⟨⟨_, rfl⟩, upd_same⟩
  · rw [upd_ne hb]
    exact n b u e
theorem Past.clear {F H : Hp} {p : Addr} {xs : List V} (h : F p = some (.lst xs)) : Past F H (upd H p (.lst [])) := fun b u e z => by
  rw [upd_ne (fun q => by subst q; exact z _ h)]
  exact e
theorem ty_near {K : PySem.W.Frag} {F H : Hp} {v : V} {d : D} (h : Dp K F v d) (c : d.canLay0 = true) (n : Near F H) : TyX K H v (.type (tyD d)) := by
  cases h with
  | non => exact .base .non
  | bl b => exact .base (.bl b)
  | int i => exact .base (.int i)
  | str x => exact .base (.str x)
  | lst a b =>
    rcases n _ _ a with q | ⟨_, q⟩
    · exact .base (.lst q)
    · exact .base (.lst q)
  | tup a b =>
    rcases n _ _ a with q | ⟨⟨_, q⟩, _⟩
    · exact .base (.tup q)
    · cases q
  | dct a b => cases c
  | scr a => cases c
  | exc x a => cases c
  | opq a => cases c
/-- the promise of a def that empties: n is how deep at most -/
def spoilSp (K : PySem.W.Frag) (n : Nat) : Sp := fun vs H Q E => ∃ (F : Hp) (v : V) (d : D), vs = [v] ∧ Dp K F v d ∧ d.canLay0 = true ∧ dep d < n ∧ Near F H ∧ ∀ H', Near F H' → Past F H H' → Q .non H'
/-- a def that stands at its name and keeps such a promise -/
structure CalS (P : Program) (w : World) (K : PySem.W.Frag) (mg : Str → Option Value) (base : Heap) (k : Nat) (x : Str) (ps : List Str) (sp : Sp) : Prop where
  ex : ∃ (f : Addr) (fd : FuncData), FnOk P w K mg base CX0 k f fd ps sp ∧ mg x = some (.ref f) ∧ PySem.W.keepIn K (.ref f) = true ∧ Binds K fd ps []
/-- a call of such a def -/
theorem ps_callS {X : Cx} {k : Nat} {ps : List Str} {x : Str} {sp : Sp} {t : TA} {e : Expr} {es : List Expr} {pos p : Pos} (F : CalS X.prog X.w X.K X.mg X.base k x ps sp) (hr : Room k X.A) (ha : PA X (e :: es) t) (hg : Gl X x := by rfl) (hdb : (x == ("__debug__" : Str)) = false := by decide)
    (he : starEach (e :: es) X.env = (false, eval e X.env) :: starEach es X.env := by rfl) (hpl : (backTo pos (starEach es X.env)).any (·.1) = false := by rfl) :
    PE X (.Call (.Name x p) (e :: es) [] pos) (tCall sp [] E0 t) := by
  obtain ⟨f, fd, Fn, hm, hk, hb⟩ := F.ex
  exact pe_call Fn hr hg hm hk hb .nil pass0 ha hdb he hpl
theorem spoil_bad {K : PySem.W.Frag} {vs : List V} {H : Hp} {Q : VK} {E : XK} (h : spoilSp K 0 vs H Q E) : False := by
  obtain ⟨F, v, d, _, _, _, h, _⟩ := h
  exact absurd h (Nat.not_lt_zero _)
theorem spoil_len {K : PySem.W.Frag} {n : Nat} {vs : List V} {H : Hp} {Q : VK} {E : XK} (h : spoilSp K n vs H Q E) : vs.length = 1 := by
  obtain ⟨F, v, d, rfl, _⟩ := h
  rfl
end DL

set_option Elab.async false
set_option linter.all false
set_option maxRecDepth 100000
set_option autoImplicit false
/-! a def that tells of a kept error its class, and a def that tells what a call was refused with -/
namespace DL
open PySem PySem.Spec PyProof.Rows L2
variable [Tabs]
/-- the classes that are asked for, in pairs -/
def kind2 : List (Str × Str) := [("NoWeb", "NoPlace"), ("NoCompany", "NoLine"), ("NoEnd", "NoRide"), ("NoNumber", "NoTurning"), ("TooMany", "NoText"), ("NoForm", "NoneYet")]
/-- what stands of the classes: of those that may be met (RN) and of all that are asked for -/
structure KindT (K : PySem.W.Frag) (mg : Str → Option Value) (RN : List Str) : Prop where
  all : ∀ n ∈ RN, ∃ Cl, mg n = some (.ref Cl) ∧ ExcC K Cl ∧ PySem.W.kitOne K (.ref Cl) (.type "ValueError") = some true ∧
    (∀ q ∈ kind2, ∃ C1 C2, mg q.1 = some (.ref C1) ∧ PySem.W.kitOne K (.ref Cl) (.ref C1) = some (decide (q.1 = n)) ∧ mg q.2 = some (.ref C2) ∧ PySem.W.kitOne K (.ref Cl) (.ref C2) = some (decide (q.2 = n)))
  rid : ∃ Cr, mg "RideError" = some (.ref Cr) ∧ ∀ n ∈ RN, ∀ Cl, mg n = some (.ref Cl) → PySem.W.exmOne K (.ref Cl) (.ref Cr) = some true
def kindSp (K : PySem.W.Frag) (mg : Str → Option Value) (RN : List Str) : Sp := fun vs H Q E => ∃ (a Cl : Addr) (n : Str), vs = [.ref a] ∧ TabF H ∧ H a = some (ExH (.ref Cl) a) ∧ n ∈ RN ∧ mg n = some (.ref Cl) ∧ ∀ H', Same H H' → Q (.str n) H'
/-- the kinds that were looked at so far, in the list at l -/
def KL (H : Hp) (vs : List V) (ks : List (Str × Bool)) : Prop := Paired (fun v (q : Str × Bool) => ∃ p, v = V.ref p ∧ H p = some (.tup [.str q.1, .bl q.2])) vs ks
theorem KL.mono {H H' : Hp} {vs : List V} {ks : List (Str × Bool)} (h : KL H vs ks) (e : Same H H') : KL H' vs ks := Paired.mapP h fun _ _ ⟨p, a, b⟩ => ⟨p, a, e _ _ b⟩
theorem KL.app {H : Hp} : ∀ {vs ws : List V} {ks js : List (Str × Bool)}, KL H vs ks → KL H ws js → KL H (vs ++ ws) (ks ++ js)
  | _, _, _, _, .nil, b => b
  | _, _, _, _, .cons h t, b => .cons h (KL.app t b)
theorem KL.len {H : Hp} : ∀ {vs : List V} {ks : List (Str × Bool)}, KL H vs ks → vs.length = ks.length
  | _, _, .nil => rfl
  | _, _, .cons _ t => by simp [KL.len t]
/-- isinstance(e, X), e in slot 0 -/
def tAsk1 (K : PySem.W.Frag) (C : Addr) : TE := tCB (rIsX K) (tCons (tVar 0) (tCons (tC (.ref C)) tNil))
/-- [("A", isinstance(e, A)), ("B", isinstance(e, B))] -/
def tAsk2 (K : PySem.W.Frag) (n1 n2 : Str) (C1 C2 : Addr) : TE := tLst (tCons (tTup (tCons (tC (.str n1)) (tCons (tAsk1 K C1) tNil))) (tCons (tTup (tCons (tC (.str n2)) (tCons (tAsk1 K C2) tNil))) tNil))
theorem ask2 {K : PySem.W.Frag} {a Cl C1 C2 : Addr} {n1 n2 : Str} {b1 b2 : Bool} {σ : L2.St} {H : Hp} {Q : VK} (hs : σ[0]? = some (some (.ref a))) (ha : H a = some (ExH (.ref Cl) a)) (eC : ExcC K Cl) (k1 : PySem.W.kitOne K (.ref Cl) (.ref C1) = some b1) (k2 : PySem.W.kitOne K (.ref Cl) (.ref C2) = some b2)
    (h : ∀ l vs H', Same H H' → H' l = some (.lst vs) → H l = none → KL H' vs [(n1, b1), (n2, b2)] → Q (.ref l) H') : tAsk2 K n1 n2 C1 C2 σ H Q := by
  have rv : ∀ {C : Addr} (u : Value), RelV (.ref C) u → u = .ref C := fun u r => by cases r; rfl
  refine ⟨.ref a, hs, a, Cl, .ref C1, _, b1, rfl, ha, eC, rv, k1, (by show 2 ≤ sizeLine; decide), fun p1 hp1 => ?_⟩
  have e1 : Same H (upd H p1 (.tup [.str n1, .bl b1])) := same_upd hp1
  refine ⟨.ref a, hs, a, Cl, .ref C2, _, b2, rfl, e1 _ _ ha, eC, rv, k2, (by show 2 ≤ sizeLine; decide), fun p2 hp2 => ?_⟩
  have e2 : Same (upd H p1 (.tup [.str n1, .bl b1])) (upd (upd H p1 (.tup [.str n1, .bl b1])) p2 (.tup [.str n2, .bl b2])) := same_upd hp2
  refine ⟨(by show 2 ≤ sizeLine; decide), fun p3 hp3 => ?_⟩
  have e3 : Same (upd (upd H p1 (.tup [.str n1, .bl b1])) p2 (.tup [.str n2, .bl b2])) (upd (upd (upd H p1 (.tup [.str n1, .bl b1])) p2 (.tup [.str n2, .bl b2])) p3 (.lst [.ref p1, .ref p2])) := same_upd hp3
  refine h p3 [.ref p1, .ref p2] _ ((e1.trans e2).trans e3) upd_same ?_ (.cons ⟨p1, rfl, e3 _ _ (e2 _ _ upd_same)⟩ (.cons ⟨p2, rfl, e3 _ _ upd_same⟩ .nil))
  cases q : H p3 with
  | none => rfl
  | some o =>
    have z := e2 _ _ (e1 _ _ q)
    rw [hp3] at z
    cases z
theorem askCat {K : PySem.W.Frag} {a Cl C1 C2 l : Addr} {n1 n2 : Str} {b1 b2 : Bool} {σ : L2.St} {H : Hp} {Q : VK} {vs : List V} {ks : List (Str × Bool)} (hs : σ[0]? = some (some (.ref a))) (h1 : σ[1]? = some (some (.ref l))) (ha : H a = some (ExH (.ref Cl) a)) (hl : H l = some (.lst vs)) (kl : KL H vs ks) (hz : ks.length ≤ 100)
    (eC : ExcC K Cl) (k1 : PySem.W.kitOne K (.ref Cl) (.ref C1) = some b1) (k2 : PySem.W.kitOne K (.ref Cl) (.ref C2) = some b2)
    (h : ∀ l' vs' H', Same H H' → H' l' = some (.lst vs') → H l' = none → KL H' vs' (ks ++ [(n1, b1), (n2, b2)]) → Q (.ref l') H') : tOp rCat (tVar 1) (tAsk2 K n1 n2 C1 C2) σ H Q := by
  refine ⟨.ref l, h1, ask2 hs ha eC k1 k2 fun l2 vs2 H2 s2 hl2 hn2 kl2 => ⟨l, l2, vs, vs2, rfl, rfl, s2 _ _ hl, hl2, ?_, fun p hp => ?_⟩⟩
  · rw [kl.len, kl2.len]
    exact small_line (decide_eq_true (by simp; omega))
  · have s3 : Same H2 (upd H2 p (.lst (vs ++ vs2))) := same_upd hp
    refine h p _ _ (s2.trans s3) upd_same ?_ (((kl.mono s2).app kl2).mono s3)
    cases q : H p with
    | none => rfl
    | some o =>
      have z := s2 _ _ q
      rw [hp] at z
      cases z
/-- the state at one list of ours, as data -/
def tups (H : Hp) : Hp := fun b => match H b with
  | some (.tup xs) => some (.tup xs)
  | some (.ext p) => some (.ext p)
  | _ => none
def kindG (K : PySem.W.Frag) (H : Hp) (l : Addr) : Ct := ⟨noxC K, tups H, fun b => if b = l then none else H b, fun _ => none⟩
theorem tups_some {H : Hp} {b : Addr} {o : HO} (h : tups H b = some o) : H b = some o := by
  unfold tups at h
  split at h
  · rename_i xs e; cases h; exact e
  · rename_i p e; cases h; exact e
  · cases h
theorem tups_tab {H : Hp} (h : TabF H) : TabF (tups H) := fun P hP => by
  unfold tups
  rw [h P hP]
  rfl
theorem tups_of {H : Hp} {b : Addr} {xs : List V} (h : H b = some (.tup xs)) : tups H b = some (.tup xs) := by
  unfold tups
  rw [h]
theorem tups_none {H : Hp} {b : Addr} {xs : List V} (h : H b = some (.lst xs)) : tups H b = none := by
  unfold tups
  rw [h]
abbrev encK (ks : List (Str × Bool)) : List D := ks.map fun q => PyData.tuple [.str q.1, .bool q.2]
theorem dp_kinds {K : PySem.W.Frag} {H : Hp} : ∀ {vs : List V} {ks : List (Str × Bool)}, KL H vs ks → DpAll K (tups H) vs (encK ks)
  | _, _, .nil => .nil
  | _, _, .cons ⟨p, e, h⟩ t => by
    subst e
    exact .cons (.tup (tups_of h) (.cons (.str _) (.cons (.bl _) .nil))) (dp_kinds t)
/-- slot j alone is told: a list of ours -/
abbrev oneSl (n j : Nat) (ds : List D) : DS := (List.replicate n Sl.no).set j (.own (.lst ds))
theorem st_own {K : PySem.W.Frag} {H : Hp} {l : Addr} {vs : List V} {ds : List D} {σ : L2.St} {n j : Nat} (hT : TabF H) (hl : H l = some (.lst vs)) (hd : DpAll K (tups H) vs ds) (hn : σ.length = n) (hj : j < n) (hs : σ[j]? = some (some (.ref l))) :
    St1 (kindG K H l) (oneSl n j ds) σ (tups H) H where
  len := by rw [List.length_set, List.length_replicate, hn]
  tb := tups_tab hT
  fh := fun b u e => tups_some e
  f0 := Same.refl _
  h0 := fun b u _ e => by
    have e : (if b = l then none else H b) = some u := e
    by_cases hb : b = l
    · rw [if_pos hb] at e; cases e
    · rw [if_neg hb] at e; exact e
  fn := fun b e => .inl e
  sl := fun i s e => by
    by_cases hi : i = j
    · subst hi
      rw [List.getElem?_set_self (by rw [List.length_replicate]; exact hj)] at e
      cases e
      exact ⟨l, _, hs, hl, tups_none hl, ⟨vs, rfl, hd⟩, rfl, if_pos rfl⟩
    · rw [List.getElem?_set_ne (Ne.symm hi)] at e
      have := List.mem_of_getElem? e
      rw [List.mem_replicate] at this
      rw [this.2]
      trivial
  di := fun i m s t p him e1 e2 h1 h2 r1 r2 => by
    have z : ∀ (i : Nat) (s : Sl), ((List.replicate n Sl.no).set j (.own (.lst ds)))[i]? = some s → s.held = true → i = j := fun i s e h => by
      by_cases hi : i = j
      · exact hi
      · rw [List.getElem?_set_ne (Ne.symm hi)] at e
        have := List.mem_of_getElem? e
        rw [List.mem_replicate] at this
        rw [this.2] at h
        cases h
    exact him ((z i s e1 h1).trans (z m t e2 h2).symm)
  ma := fun i p e => by cases e
theorem kind_keep {K : PySem.W.Frag} {H H' F' : Hp} {l : Addr} {δ : DS} {σ : L2.St} (k : St1 (kindG K H l) δ σ F' H') {b : Addr} {o : HO} (hb : b ≠ l) (h : H b = some o) : H' b = some o := k.h0 b o (fun i z => by cases z) (by
  show (if b = l then none else H b) = some o
  rw [if_neg hb]
  exact h)
/-- [name for name, so in kinds if so] -/
abbrev dMet : De := dLc [3, 4] (dIter (dVar 1)) (gTupD 2 (gsCons (gN 3) (gsCons (gN 4) gsNil))) (dTest (dVar 4)) (dVar 3)
/-- what is left of the list of one text as it is looked at -/
theorem met_left {K : PySem.W.Frag} {H H' F' : Hp} {l : Addr} {n : Str} {σ : L2.St} {j : Nat} {δ : DS} (k : St1 (kindG K H l) δ σ F' H') (hj : δ[j]? = some (.own (.lst [.str n]))) (hs : σ[j]? = some (some (.ref l))) : H' l = some (.lst [.str n]) := by
  obtain ⟨p, o, e1, e2, e3, ⟨vs, rfl, w⟩, _⟩ := k.sl j _ hj
  rw [hs] at e1
  cases e1
  cases w with
  | cons a b => cases b; cases a; exact e2
theorem finA_eq {α β : Type} {G : Ct} {W : DS → Hp → Hp → β → α → Prop} {r r' : R α} {σ : L2.St} {F : Hp} {Q : β → Hp → Prop} (e : r = r') (h : finA G W r' σ F Q) : finA G W r σ F Q := by
  rw [e]
  exact h
theorem dp_one {K : PySem.W.Frag} {F : Hp} (n : Str) : DpAll K F [.str n] [.str n] := .cons (.str n) .nil
section
variable {X : Cx} {C : Cf} {pos : Pos}
/-- y = [..], told of the value alone: all other slots are as they were -/
theorem ps_setLcE (i : Nat) {y : Str} {py spos : Pos} {elt tg iter : Expr} {ifs : List Expr} {scope : Scope} {own : List (Str × Nat)} {ts : List Nat} {ti : Di} {g : Dg} {tt : Dt} {te : De} (hi : PI X tg iter (upI C ti)) (hN : X.N.Nodup) (ok : BlkOk X.N X.env.scope scope own)
    (hg : ∀ (s : Shared) (H : Hp) (Ca : Addr) (cl : List (Str × Addr)) (fp : List Addr), PG (X.blk s H scope (compEnvC scope cl Ca X.env) fp) tg (upG (nox C) ts g)) (ht : ∀ (s : Shared) (H : Hp) (Ca : Addr) (cl : List (Str × Addr)) (fp : List Addr), PTs (X.blk s H scope (compEnvC scope cl Ca X.env) fp) ifs (upT (nox C) tt))
    (he : ∀ (s : Shared) (H : Hp) (Ca : Addr) (cl : List (Str × Addr)) (fp : List Addr), PE (X.blk s H scope (compEnvC scope cl Ca X.env) fp) elt (up (nox C) te)) (hsw : swapsWith (.ListComp elt [⟨tg, iter, ifs, 0⟩] scope pos) (some (.Name y py)) spos.line X.env = pure true) (hy : X.N[i]? = some y := by rfl) (hyl : X.env.scope.names.lookup y = some .local := by rfl)
    (hts : ∀ t ∈ ts, t ∈ own.map (·.2) := by decide) (hc : X.calm = true := by rfl) (hs : ∀ x, foldedSetIterable iter X.env x = pure x := by intro _; rfl) :
    PS X (.Assign [.Name y py] (.ListComp elt [⟨tg, iter, ifs, 0⟩] scope pos) spos) (tAsg (up C (dLc (own.map (·.2)) ti g tt te)) (gName i)) := ps_weak (ps_setLc hc hN hy hyl hsw hi ok hg ht he hs) fun D σ H q => rf_lc hts σ H _ q
end
end DL

set_option Elab.async false
set_option linter.all false
set_option maxRecDepth 100000
set_option autoImplicit false
/-! try: body / except RideError as e: caught = e / return "none" if caught is None else kind(caught) -/
namespace DL
open PySem PySem.Spec PyProof.Rows L2
variable [Tabs]
theorem St1.swap {G : Ct} {C' : Cf} {δ : DS} {σ : L2.St} {F H : Hp} (hK : C'.K = G.C.K) (k : St1 G δ σ F H) : St1 ⟨C', G.F0, G.H0, G.M⟩ δ σ F H := by
  obtain ⟨⟨K, E⟩, F0, H0, M⟩ := G
  obtain ⟨K', E'⟩ := C'
  cases hK
  exact ⟨k.len, k.fh, k.f0, k.h0, k.fn, k.sl, k.di, k.ma, k.tb⟩
theorem St1.unswap {G : Ct} {C' : Cf} {δ : DS} {σ : L2.St} {F H : Hp} (hK : C'.K = G.C.K) (k : St1 ⟨C', G.F0, G.H0, G.M⟩ δ σ F H) : St1 G δ σ F H := by
  obtain ⟨⟨K, E⟩, F0, H0, M⟩ := G
  obtain ⟨K', E'⟩ := C'
  cases hK
  exact ⟨k.len, k.fh, k.f0, k.h0, k.fn, k.sl, k.di, k.ma, k.tb⟩
/-- slot i is told of no more -/
theorem St1.setNo {G : Ct} {δ : DS} {σ : L2.St} {F H : Hp} (k : St1 G δ σ F H) {i : Nat} {s : Sl} {x : Option V} (h : δ[i]? = some s) (hs : s.isArg = false) : St1 G (δ.set i .no) (σ.set i x) F H where
  len := by simpa using k.len
  fh := k.fh
  f0 := k.f0
  h0 := k.h0
  fn := k.fn
  sl := fun j t e => by
    obtain ⟨l1, l2⟩ := k.lt h
    by_cases hj : j = i
    · subst hj
      rw [List.getElem?_set_self l1] at e
      cases e
      trivial
    · rw [List.getElem?_set_ne (Ne.symm hj)] at e ⊢
      exact k.sl j t e
  di := fun j j' t t' p hj e e' q q' r r' => by
    obtain ⟨l1, l2⟩ := k.lt h
    have a1 : j ≠ i := fun z => by subst z; rw [List.getElem?_set_self l1] at e; cases e; cases q
    have a2 : j' ≠ i := fun z => by subst z; rw [List.getElem?_set_self l1] at e'; cases e'; cases q'
    rw [List.getElem?_set_ne (Ne.symm a1)] at e r
    rw [List.getElem?_set_ne (Ne.symm a2)] at e' r'
    exact k.di j j' t t' p hj e e' q q' r r'
  tb := k.tb
  ma := fun j p e => by
    have a1 : j ≠ i := fun z => by subst z; rw [k.M_none h hs] at e; cases e
    rw [List.getElem?_set_ne (Ne.symm a1)]
    exact k.ma j p e
/-- new things alone -/
theorem St1.more {G : Ct} {δ : DS} {σ : L2.St} {F H H' : Hp} (k : St1 G δ σ F H) (e : Same H H') : St1 G δ σ F H' := k.grow (Same.refl F) (k.fh.trans e) e fun b z => .inl z
def dAsk (RN : List Str) (i j : Nat) (sb : Ds) : Ds := fun δ => match sb δ with
  | .ok .nx δ1 => (match δ1[j]? with
    | some (.fz .none) => .ok (.rt (.fz (.str "none"))) δ1
    | _ => .bad)
  | .ex (.str x 0) δ1 => okIf (decide (x ∈ RN) && (okSet δ1 i && okSet δ1 j)) (.ok (.rt (.fz (.str x))) ((δ1.set i .no).set j .no))
  | _ => .bad
section
variable {X : Cx} {C : Cf} {sb : Ds} {st1 st2 : Stmt}
abbrev rIs : R2 := fun x y H Q => y = .non ∧ Q (.bl (decide (x = .non))) H
theorem pds_ask (RN : List Str) (i j : Nat) (kd : KindT X.K X.mg RN)
    (h1 : ∀ Cr, X.mg "RideError" = some (.ref Cr) → PS X st1 (fun D σ H => ups (exC X.K X.mg (wKeep X.K (.ref Cr) i (tAsg (tVar i) (gName j)) D)) sb D σ H))
    (h2 : PS X st2 (tRet (tIf (tTest (tOp rIs (tVar j) (tC .non))) (tC (.str "none")) (tCall (kindSp X.K X.mg RN) [] E0 (tCons (tVar j) tNil))))) (hij : i ≠ j := by decide) (hC : C.K = X.K := by rfl) : PSs X [st1, st2] (ups C (dAsk RN i j sb)) := by
  obtain ⟨Cr, gR, hex⟩ := kd.rid
  refine pss_weak (pss_cons (h1 Cr gR) (pss_one h2)) fun D σ H ⟨G, δ, F, hG, k, h⟩ => ?_
  subst hG
  have hK : ∀ W, (exC X.K X.mg W).K = G.C.K := fun W => hC.symm
  refine ⟨⟨exC X.K X.mg _, G.F0, G.H0, G.M⟩, δ, F, rfl, k.swap (hK _), ?_⟩
  unfold dAsk at h
  cases e : sb δ with
  | bad => rw [e] at h; exact h.elim
  | ok o δ1 =>
    rw [e] at h
    cases o with
    | bk => exact h.elim
    | ct => exact h.elim
    | rt v => exact h.elim
    | nx =>
      intro σ' F' H' k' ff
      have k1 := k'.unswap (hK _)
      simp only at h
      cases ej : δ1[j]? with
      | none => rw [ej] at h; exact h.elim
      | some s =>
        rw [ej] at h
        cases s with
        | no => exact h.elim
        | own c => exact h.elim
        | arg c => exact h.elim
        | fz d =>
          cases d with
          | none =>
            obtain ⟨v, e1, e2⟩ := k1.sl j _ ej
            cases e2
            refine ⟨.non, e1, rfl, _, rfl, ?_⟩
            rw [decide_eq_true rfl]
            exact iteT (h (.str "none") σ' F' H' k1 ff (.str _))
          | _ => exact h.elim
  | ex c δ1 =>
    rw [e] at h
    cases c with
    | str x t =>
      cases t with
      | succ t => exact h.elim
      | zero =>
        obtain ⟨z, h⟩ := okIf_finS h
        rw [Bool.and_eq_true, Bool.and_eq_true] at z
        obtain ⟨z1, z2, z3⟩ := z
        have hx : x ∈ RN := of_decide_eq_true z1
        obtain ⟨Cl, gC, _⟩ := kd.all x hx
        intro σ' F' H' k' ff
        have k1 := k'.unswap (hK _)
        refine ⟨x, Cl, rfl, gC, rfl, hex x hx Cl gC, fun a na => ?_⟩
        obtain ⟨s1, f1, f2⟩ := okSet_some z2
        obtain ⟨s2, g1, g2⟩ := okSet_some z3
        obtain ⟨l1, l2⟩ := k1.lt f1
        obtain ⟨l3, l4⟩ := k1.lt g1
        refine ⟨.ref a, by rw [List.getElem?_set_self l2], ?_⟩
        have ej : (((σ'.set i (some (.ref a))).set j (some (.ref a))).set i none)[j]? = some (some (.ref a)) := by
          rw [List.getElem?_set_ne hij, List.getElem?_set_self (by rw [List.length_set]; exact l4)]
        have es : ((σ'.set i (some (.ref a))).set j (some (.ref a))).set i none = (σ'.set i none).set j (some (.ref a)) := by
          rw [List.set_comm _ _ hij.symm, List.set_set]
        refine ⟨.ref a, ej, rfl, _, rfl, ?_⟩
        rw [decide_eq_false (fun q => by cases q)]
        refine iteF ⟨.ref a, ej, a, Cl, x, rfl, fun P hP => same_upd na _ _ (k1.fh _ _ (k1.tabF P hP)), upd_same, hx, gC, fun H4 s4 => ?_⟩
        have k2 := (k1.setNo (x := none) f1 f2).setNo (x := some (.ref a)) (i := j) (s := s2) (by rw [List.getElem?_set_ne hij]; exact g1) g2
        have k3 := k2.more ((same_upd (o := ExH (.ref Cl) a) na).trans s4)
        exact h (.str x) _ F' H4 k3 ff (.str x)
    | _ => exact h.elim
end
/-! ### what isinstance and except ask of classes -/
theorem cls_some {K : PySem.W.Frag} {Cm : Addr} (hd : PySem.W.hasDictIn K Cm = true) (ht : PySem.W.typeIn K (.ref Cm) = some (.type "type")) : ((PySem.W.clsIn K Cm).isSome && PySem.W.typeIn K (.ref Cm) == some (.type "type")) = true := by
  obtain ⟨cd, hc, _⟩ := PySem.W.any_some hd
  rw [hc, ht]
  rfl
theorem kit_same {K : PySem.W.Frag} (Cl : Addr) : PySem.W.kitOne K (.ref Cl) (.ref Cl) = some true := by
  unfold PySem.W.kitOne
  rw [if_pos (beq_self_eq_true _)]
theorem kit_other {K : PySem.W.Frag} {Cl Cm : Addr} (hd : PySem.W.hasDictIn K Cm = true) (ht : PySem.W.typeIn K (.ref Cm) = some (.type "type")) (hs : PySem.W.subIn K (.ref Cl) (.ref Cm) = some false) (h1 : PySem.W.subIn K (.ref Cl) (.ref Cl) = some true) : PySem.W.kitOne K (.ref Cl) (.ref Cm) = some false := by
  have ne : ¬ ((Value.ref Cl == Value.ref Cm) = true) := fun q => by
    have e : Cl = Cm := Value.ref.inj (beq_iff_eq.mp q)
    subst e
    rw [h1] at hs
    cases hs
  unfold PySem.W.kitOne
  rw [if_neg ne]
  show (if ((PySem.W.clsIn K Cm).isSome && PySem.W.typeIn K (.ref Cm) == some (.type "type")) = true then PySem.W.subIn K (.ref Cl) (.ref Cm) else none) = some false
  rw [if_pos (cls_some hd ht)]
  exact hs
theorem kit_val {K : PySem.W.Frag} {Cl : Addr} (hs : PySem.W.subIn K (.ref Cl) (.type "ValueError") = some true) : PySem.W.kitOne K (.ref Cl) (.type "ValueError") = some true := by
  have ne : ¬ ((Value.ref Cl == Value.type "ValueError") = true) := fun q => by
    have e := beq_iff_eq.mp q
    cases e
  unfold PySem.W.kitOne
  rw [if_neg ne]
  show (if PySem.W.kitMeta "ValueError" = true then PySem.W.subIn K (.ref Cl) (.type "ValueError") else none) = some true
  rw [if_pos (by decide +kernel)]
  exact hs
end DL

set_option Elab.async false
set_option linter.all false
set_option maxRecDepth 100000
set_option maxHeartbeats 2000000
set_option autoImplicit false
/-! all(element for target in things): the generator's own frame as a context of the hand layer -/
namespace DL
open PySem PySem.Spec PyProof.Rows L2
variable [Tabs]
section
variable {X : Cx} {pins : List (Addr × Obj)} {σ : L2.St} {H : Hp} {s : Shared}
theorem tabX_at {P : Addr} (I : Inv X pins σ H s) (hP : H P = some (TabX P)) : ∃ ps : Array Value, s.heap.get? P = some { cls := .none, data := .fields ps } ∧ TriplesOk ps.toList := (I.hok P _ hP).1
/-- the table has gathered more, all else is kept -/
theorem inv_tabX {P : Addr} {ps' : Array Value} {h' : Heap} {g' : Array GenState} {d' : Drawn} {t' : Nat} (I : Inv X pins σ H s) (hP : H P = some (TabX P)) (k : ∀ b o, b ≠ P → s.heap.get? b = some o → h'.get? b = some o)
    (hm : h'.get? P = some { cls := .none, data := .fields ps' }) (ht : TriplesOk ps'.toList) (hg : AllBare g') : Inv X pins σ H { s with heap := h', gens := g', drawn := d', toks := t' } := by
  have nP : ∀ b u, H b = some u → u ≠ TabX P → b ≠ P := fun b u e q z => by
    rw [z, hP] at e
    exact q (Option.some.inj e).symm
  have nN : ∀ b, H b = none → b ≠ P := fun b e z => by
    rw [z, hP] at e
    cases e
  refine I.step (g' := g') (d' := d') (ch := []) (fun b hb => absurd hb (by simp)) (fun b o _ _ _ e n => k b o (nN b n) e) (fun b o _ _ _ e n => ⟨o.slots, k b o (nN b n) e⟩)
    (fun b o _ e n => n) (fun b o _ e => ?_) (fun b xs e => e) (fun b o u e => e) (fun b qs e => ⟨#[], by rw [e]; simp⟩) (fun m hn => ?_) (fun b u e => ?_) hg
  · by_cases hb : b = P
    · rw [hb]
      exact ⟨_, hm⟩
    · exact ⟨o, k b o hb e⟩
  · obtain ⟨ob, es, ep, ho, r⟩ := hn
    exact ⟨ob, es, ep, k _ ob (nN _ I.free) ho, r⟩
  · by_cases hb2 : b = P
    · rw [hb2, hP] at e
      cases e
      rw [hb2]
      exact ⟨⟨ps', hm, ht⟩, ⟨_, hm⟩, fun h h' ⟨q, q1, q2⟩ kk => ⟨q, kk _ q1, q2⟩⟩
    · refine (I.hok b u e).stay (fun d v hd q => k d v ?_ q) (fun d q => q) fun d xs q => q
      rcases hd with z | z
      · rw [z]
        exact hb2
      · exact nP d _ z (fun q => by cases q)
end
/-- the generator expression's scope: its targets are its own, what else it names is the def's or global -/
structure GexS (sc scope : Scope) (ts : List Str) : Prop where
  kind : scope.kind = .function
  co : scope.isCoroutine = false
  cell : ∀ y ∈ scope.names, y.2 ≠ .cell
  dot : scope.names.lookup (".0" : Str) = some NameKind.local
  free : ∀ y ∈ scope.names, y.2 = .free → sc.names.lookup y.1 = some .cell ∨ sc.names.lookup y.1 = some .free
  own : ∀ x, scope.names.lookup x = some .local → x = (".0" : Str) ∨ x ∈ ts
def gexB (sc scope : Scope) (ts : List Str) : Bool :=
  decide (scope.kind = .function) && (!scope.isCoroutine && (scope.names.all (fun y => !decide (y.2 = .cell)) && (decide (scope.names.lookup (".0" : Str) = some NameKind.local) && (scope.names.all (fun y => !decide (y.2 = .free) || (decide (sc.names.lookup y.1 = some .cell) || decide (sc.names.lookup y.1 = some .free))) && scope.names.all fun y => !decide (y.2 = .local) || (decide (y.1 = (".0" : Str)) || decide (y.1 ∈ ts))))))
theorem gexS_by {sc scope : Scope} {ts : List Str} (h : gexB sc scope ts = true) : GexS sc scope ts := by
  unfold gexB at h
  simp only [Bool.and_eq_true, Bool.or_eq_true, Bool.not_eq_true', decide_eq_true_eq, decide_eq_false_iff_not, List.all_eq_true] at h
  obtain ⟨h1, h2, h3, h4, h5, h6⟩ := h
  refine ⟨h1, h2, h3, h4, fun y hy e => ?_, fun x hx => ?_⟩
  · rcases h5 y hy with z | z
    · exact absurd e z
    · exact z
  · rcases h6 _ (PySem.mem_of_lookup hx) with z | z
    · exact absurd rfl z
    · exact z
abbrev gexEnv (X : Cx) (scope : Scope) (C : Addr) (code : Value) : Env := genEnv scope (cloFrom X.env.cells scope.names []) C code builtinsNs X.env
/-- the context of the generator's frame, made at s -/
def gexCx (X : Cx) (A : Around) (s : Shared) (H : Hp) (scope : Scope) (C : Addr) (code : Value) (fp : List Addr) : Cx where
  prog := X.prog
  w := X.w
  K := X.K
  mg := X.mg
  base := X.base
  A := A
  N := X.N
  s_0 := s
  H_0 := H
  env := gexEnv X scope C code
  outer := X.stack
  stack := gexEnv X scope C code :: X.stack
  ex := fp
  fn := fun _ => false
  calm := true
  pn := []
  xe := fun _ _ => False
section
variable {X : Cx} {pins : List (Addr × Obj)} {σ : L2.St} {H : Hp} {s : Shared}
theorem gex_start {A : Around} {scope : Scope} {ts : List Str} {vs : List Nat} {code : Value} {fp : List Addr} {h₁ : Heap} {g₁ : Array GenState} {d₁ : Drawn} {t₁ : Nat} {m : Str → Option Value} (I : Inv X pins σ H s) (S : GexS X.env.scope scope ts) (hd : A.handled = none)
    (hf : A.frames = some (gexEnv X scope s.heap.objs.size code :: X.stack)) (hfp : ∀ b ∈ fp, FpOk X pins H b ∧ b < s.heap.objs.size) (hts : ∀ (i : Nat) (x : Str), X.N[i]? = some x → x = (".0" : Str) ∨ x ∈ ts → i ∈ vs)
    (hns : h₁.Ns s.heap.objs.size m) (kp : ∀ b o, s.heap.get? b = some o → h₁.get? b = some o) (hg : AllBare g₁) :
    Inv (gexCx X A s H scope s.heap.objs.size code fp) [] (wipe σ vs) H { s with heap := h₁, gens := g₁, drawn := d₁, toks := t₁ } := by
  have e0 := I.env0
  have hfree : ∀ y ∈ scope.names, y.2 = .free → ∃ c, X.env.cells.lookup y.1 = some c := fun y hy e => by
    rcases S.free y hy e with k | k
    · exact I.ok.has _ (.inl k)
    · exact I.ok.has _ (.inr k)
  have cm : ∀ {y c}, (cloFrom X.env.cells scope.names []).lookup y = some c → X.env.cells.lookup y = some c := fun {y c} e => by
    rcases cloFrom_mem (PySem.mem_of_lookup e) with hm | ⟨h1, h2⟩
    · cases hm
    · obtain ⟨c1, hc⟩ := hfree _ h1 rfl
      have hc : X.env.cells.lookup y = some c1 := hc
      have e2 : c = c1 := by
        rw [h2, hc]
        rfl
      rw [e2]
      exact hc
  have look : ∀ {y}, scope.names.lookup y = some .free → ∃ c, (cloFrom X.env.cells scope.names []).lookup y = some c := fun {y} hl => by
    have hy : (y, NameKind.free) ∈ scope.names := PySem.mem_of_lookup hl
    exact mem_lookup (cloFrom_has (cells := X.env.cells) (acc := []) hy)
  have cellK : ∀ {c : Addr} {v : Option Value}, s.heap.IsCell c v → h₁.IsCell c v := fun {c v} ⟨o, ho, hd⟩ => ⟨o, kp _ _ ho, hd⟩
  have cLt : ∀ {y c}, X.env.cells.lookup y = some c → c < s.heap.objs.size := fun {y c} e => by
    obtain ⟨v, q⟩ := I.cell y c e
    exact q.lt
  refine ⟨⟨e0.mod, S.kind, I.ok.glob, rfl, Nat.le_refl _, fun y z c e1 e2 => I.ok.inj y z c (cm e1) (cm e2), fun y hy => ?_, fun y c z _ => ?_, fun _ => hd, hf, .inr ⟨rfl, rfl⟩, fun b hb => ⟨Nat.ne_of_lt (hfp b hb).2, fun x c e => (hfp b hb).1.2.2.2.2.1 x c (cm e)⟩, e0.bs, e0.bsz, fun b o e hb => ?_,
      fun b hb z => ?_, e0.funs, e0.frf⟩,
    rfl, hg, Un.kept kp, ⟨m, hns, fun i y v e1 e2 e3 => ?_⟩, fun y c e => ?_, I.hok.fresh (Nat.le_refl _), fun y c e => I.freeC y c (cm e), fun q hq => absurd (show q ∈ ([] : List (Addr × Obj)) ++ [] from hq) (by simp), I.hok.kept kp, by rw [wipe_length]; exact I.len⟩
  · have hy : scope.names.lookup y = some .cell ∨ scope.names.lookup y = some .free := hy
    rcases hy with hy | hy
    · exact absurd rfl (S.cell _ (PySem.mem_of_lookup hy))
    · exact look hy
  · have z : false = true := z
    cases z
  · rcases (hfp b hb).1.2.2.2.1 with z | z
    · exact I.ok.noex b o e z
    · exact absurd (Nat.lt_of_lt_of_le (Heap.lt_size e) (Nat.le_trans I.ok.bsz z)) (Nat.lt_irrefl _)
  · have z : b ∈ frs X.stack := z
    rcases List.mem_cons.mp (I.stkSub b z) with q | q
    · exact (hfp b hb).1.2.1 q
    · exact (hfp b hb).1.2.2.1 q
  · have e3 : Vis scope y := e3
    obtain ⟨e2, ni⟩ := wipe_some e2
    rcases e3 with k | k | k
    · exact absurd (hts i y e1 (S.own y k)) ni
    · exact absurd rfl (S.cell _ (PySem.mem_of_lookup k))
    · obtain ⟨m', hn, hl⟩ := I.loc
      have hvis : Vis X.env.scope y := (S.free _ (PySem.mem_of_lookup k) rfl).elim (fun k => .inr (.inl k)) (fun k => .inr (.inr k))
      obtain ⟨w', r, q⟩ := hl i y v e1 e2 hvis
      obtain ⟨c2, h2⟩ := look k
      refine ⟨w', r, .inr ⟨.inr k, c2, h2, ?_⟩⟩
      have c1 := cm h2
      rcases q with ⟨k', _⟩ | ⟨_, c3, e', z⟩
      · have k' : X.env.scope.names.lookup y = some .local := k'
        rcases S.free _ (PySem.mem_of_lookup k) rfl with k2 | k2 <;> rw [show X.env.scope.names.lookup y = _ from k2] at k' <;> cases k'
      · rw [c1] at e'
        cases e'
        exact cellK z
  · obtain ⟨w', z⟩ := I.cell y c (cm e)
    exact ⟨w', cellK z⟩
end
/-! ### the frame's run -/
/-- woken: the generators' states and the tokens may be others, nothing else -/
def Woke (s s' : Shared) : Prop := ∃ g t, s' = { s with gens := g, toks := t } ∧ AllBare g ∧ s.gens.size ≤ g.size
section
variable {Z : Cx} {pins : List (Addr × Obj)} {σ : L2.St} {H : Hp} {s s' : Shared}
theorem Inv.woke (I : Inv Z pins σ H s) (w : Woke s s') : Inv Z pins σ H s' := by
  obtain ⟨g, t, rfl, hg, _⟩ := w
  exact ⟨I.ok, I.os, hg, I.base, I.loc, I.cell, I.free, I.freeC, I.pin, I.hok, I.len⟩
end
abbrev gexGo (elt tg iter : Expr) (scope : Scope) (pos : Pos) (it : Addr) (env : Env) : Code := .compLoop (.GeneratorExp elt [⟨tg, iter, [], 0⟩] scope pos) 0 (.ref it) .none env
theorem over_frames {A : Around} {elt tg iter : Expr} {scope : Scope} {pos : Pos} {it : Addr} {env : Env} {l : List Env} (h : A.frames = some l) : (A.over (gexGo elt tg iter scope pos it env) []).frames = some (env :: l) := by
  simp [gexGo, Around.over, envsOf, pushEnvs, Code.envs, Code.env?, Code.isFrame, h]
/-- what comes out, and what is asked where the consumer goes on -/
def GxY (Z : Cx) (pins : List (Addr × Obj)) (σ0 : L2.St) (gi : Nat) (QF : Hp → Prop) : Protocol := fun _ _ v s kap =>
  ∃ b H, v = .bool b ∧ Inv Z pins σ0 H s ∧ gi < s.gens.size ∧ (b = false → QF H) ∧ (b = true → ∀ s', Woke s s' → kap (.send .none) s')
def GxE (Z : Cx) (pins : List (Addr × Obj)) (σ0 : L2.St) (gi : Nat) (QT : Hp → Prop) : Nat → Shared → Shared → Prop := fun _ _ s => ∃ H, Inv Z pins σ0 H s ∧ gi < s.gens.size ∧ QT H
abbrev GxRe (Z : Cx) (pins : List (Addr × Obj)) (σ0 : L2.St) (gi : Nat) (QT : Hp → Prop) : GenEnd := fun n s0 r s => r = .ok .next ∧ GxE Z pins σ0 gi QT n s0 s
/-- the turns of an all(..): each heap's word says whether it stops, or goes on -/
def Turns (J : It) (g : TG) (te : TE) (vs : List Nat) (σ0 : L2.St) (QT QF : Hp → Prop) (W : Nat → Nat → Hp → Prop) : Prop := ∀ i m H, W i m H →
  (J.stop i H ∧ QT H) ∨ (J.go i H ∧ ∃ Nx : Hp → Prop, (∀ H', Nx H' → ∃ m', m' < m ∧ W (i + 1) m' H') ∧ ∀ x H', J.yld i H x H' → g x σ0 H' fun σ2 H2 => wipe σ2 vs = σ0 ∧ te σ2 H2 fun y H3 => ∃ b, y = .bl b ∧ (b = true → Nx H3) ∧ (b = false → QF H3))
theorem seg_gex {Z : Cx} {A : Around} {elt tg iter : Expr} {scope : Scope} {pos : Pos} {it : Addr} {fp : List Addr} {tn : Nat → Heap → Prop} {J : It} {pins : List (Addr × Obj)} {σ0 : L2.St} {vs : List Nat} {g : TG} {te : TE} {QT QF : Hp → Prop} {W : Nat → Nat → Hp → Prop} {gi : Nat}
    (hA : Z.A = A.over (gexGo elt tg iter scope pos it Z.env) []) (hc : Z.calm = true) (hx : Z.xe = fun _ _ => False) (hpn : Z.pn = []) (hex : Z.ex = fp) (hco : Z.env.scope.isCoroutine = false) (hpp : ∀ b ∈ fp, ∀ p ∈ pins, p.1 ≠ b) (T : Turn Z.prog Z.w Z.K tg J fp it tn) (pg : PG Z tg g) (pe : PE Z elt te)
    (turn : Turns J g te vs σ0 QT QF W) : ∀ (m i n : Nat) (s₀ s : Shared) (H : Hp), m < n → W i m H → Inv Z pins σ0 H s → gi < s.gens.size → tn i s.heap → (∀ b ∈ fp, H b = none) →
      Seg (model Z.prog Z.w) A (GxRe Z pins σ0 gi QT) (GxY Z pins σ0 gi QF) n s₀ (gexGo elt tg iter scope pos it Z.env) ((model Z.prog Z.w).den (gexGo elt tg iter scope pos it Z.env)) [] s := by
  have stat : ∀ {σ' : L2.St} {H' : Hp} {s' : Shared} {pl : List (Addr × Obj)}, pl = pins → Inv Z pl σ' H' s' → (∀ b ∈ fp, H' b = none) → ∀ b ∈ fp, FpOk Z pl H' b := fun {σ' H' s' pl} ep I' hn b hb => by
    subst ep
    have hbe : b ∈ Z.ex := by rw [hex]; exact hb
    refine ⟨hn b hb, (I'.ok.exf b hbe).1, I'.ok.exfs b hbe, .inl hbe, fun x c e => (I'.ok.exf b hbe).2 x c e, fun p hp => ?_⟩
    rw [hpn] at hp
    exact hpp b hb p hp
  intro m
  induction m using Nat.strongRecOn with
  | ind m ih =>
    intro i n s₀ s H hn w I hgi st nfp
    show Seg _ A _ _ n s₀ _ ((compTurn (.GeneratorExp elt [⟨tg, iter, [], 0⟩] scope pos) 0 (.ref it) .none Z.env).onRaise (leaving Z.env)) [] s
    rw [compTurn_gen, Sem.onRaise_eq_wrap]
    refine seg_bind_wrap (wpAny_standAt ?_)
    rcases turn i m H w with ⟨stop, qq⟩ | ⟨go, Nx, hNx, step⟩
    · refine seg_bind_wrap ?_
      rw [← hA]
      refine GenW.wpAny_gsz hgi (thnF (T.done Z rfl rfl rfl hc i pins s σ0 H (fun _ _ => False) I (stat rfl I nfp) st stop) fun r s1 ⟨hr, I1⟩ hg1 => ?_)
      subst hr
      exact seg_end (.ok .next) ⟨rfl, H, I1, hg1, qq⟩
    · refine seg_bind_wrap ?_
      rw [← hA]
      refine GenW.wpAny_gsz hgi (thnF (T.item Z rfl rfl rfl hc i pins s σ0 H (fun _ _ => False) I (stat rfl I nfp) st go) fun r s1 ⟨u, hr, h1⟩ hg1 => ?_)
      subst hr
      refine seg_bind_wrap ?_
      rw [← hA]
      refine GenW.wpAny_gsz hg1 (thnF h1 fun _ s2 ⟨x, H2, I2, r2, y2, st2, n2⟩ hg2 => ?_)
      have I2' := I2.pinned (stat rfl I2 n2) (T.obj _ _ st2)
      refine seg_bind_wrap ?_
      rw [← hA]
      have pa := pg.run _ s2 _ H2 x u _ I2' r2 (step x H2 y2)
      rw [hx] at pa
      refine GenW.wpAny_gsz hg2 (thnF pa fun _ s3 ⟨σ3, H3, I3, hw3, q3⟩ hg3 => ?_)
      -- no test
      refine seg_bind_wrap ?_
      rw [← hA]
      simp only [List.forIn_nil]
      refine wpAny_pure ?_
      simp only [if_true]
      have hy : ∀ v, yieldOut Z.env v = yieldValue v := fun v => by simp only [yieldOut, hco, Bool.false_eq_true, if_false]
      simp only [hy]
      rw [Sem.bind_eq_wrap', Sem.bind_eq_wrap', Sem.wrap_wrap, Sem.wrap_wrap]
      refine seg_wrap ?_
      rw [← hA]
      have pv := pe.run _ s3 σ3 H3 _ I3 q3
      rw [hx] at pv
      refine GenW.wpAny_gsz hg3 (thnF pv fun v s4 ⟨yv, H4, I4, r4, b, hb, hT, hF⟩ hg4 => ?_)
      subst hb
      have r4 : v = .bool b := r4
      subst r4
      have pin' : ∀ b ∈ fp, ∀ o, s2.heap.get? b = some o → s4.heap.get? b = some o ∧ H4 b = none := fun b hb o e =>
        let z := I4.pin (b, o) (List.mem_append_right _ (List.mem_append_right _ (mem_pinsAt hb e)))
        ⟨z.1, z.2.1⟩
      have hl : σ0.length = σ3.length := by rw [← hw3, wipe_length]
      have I5 : Inv Z pins σ0 H4 s4 := (I4.unpinned (pins := pins)).weak hl fun j v e => by
        rw [← hw3] at e
        exact (wipe_some e).1
      have st4 : tn (i + 1) s4.heap := T.keep _ _ _ st2 fun b hb o e => (pin' b hb o e).1
      have n4 : ∀ b ∈ fp, H4 b = none := fun b hb => by
        obtain ⟨o, e, _⟩ := T.obj _ _ st2 b hb
        exact (pin' b hb o e).2
      cases n with
      | zero => omega
      | succ n =>
        refine seg_at (seg_yield rfl rfl rfl ⟨b, H4, rfl, I5, hg4, hF, fun hb s5 wk => ?_⟩)
        subst hb
        obtain ⟨m', hm, w'⟩ := hNx H4 (hT rfl)
        have hg5 : gi < s5.gens.size := by
          obtain ⟨g5, t5, rfl, _, hz⟩ := wk
          exact Nat.lt_of_lt_of_le hg4 hz
        have e5 : s5.heap = s4.heap := by
          obtain ⟨g5, t5, rfl, _, _⟩ := wk
          rfl
        exact seg_again rfl (ih m' hm (i + 1) n s5 s5 H4 (by omega) w' (Inv.woke I5 wk) hg5 (by rw [e5]; exact st4) n4)
end DL

set_option Elab.async false
set_option linter.all false
set_option maxRecDepth 100000
set_option maxHeartbeats 2000000
set_option autoImplicit false
/-! all(..) over the generator's frame -/
namespace DL
open PySem PySem.Spec PyProof.Rows L2
variable [Tabs]
section
variable {Z : Cx} {A : Around} {elt tg iter : Expr} {scope : Scope} {pos : Pos} {it : Addr} {fp : List Addr} {tn : Nat → Heap → Prop} {J : It} {pins : List (Addr × Obj)} {σ0 : L2.St} {vs : List Nat} {g : TG} {te : TE} {QT QF : Hp → Prop} {W : Nat → Nat → Hp → Prop} {gi : Nat}
theorem seg_gex0 (hA : Z.A = A.over (gexGo elt tg iter scope pos it Z.env) []) (hc : Z.calm = true) (hx : Z.xe = fun _ _ => False) (hpn : Z.pn = []) (hex : Z.ex = fp) (hco : Z.env.scope.isCoroutine = false) (hpp : ∀ b ∈ fp, ∀ p ∈ pins, p.1 ≠ b) (T : Turn Z.prog Z.w Z.K tg J fp it tn) (pg : PG Z tg g) (pe : PE Z elt te)
    (turn : Turns J g te vs σ0 QT QF W) {m n : Nat} {s₀ s : Shared} {H : Hp} (hmn : m < n) (w : W 0 m H) (I : Inv Z pins σ0 H s) (hgi : gi < s.gens.size) (st : tn 0 s.heap) (nfp : ∀ b ∈ fp, H b = none) :
    Seg (model Z.prog Z.w) A (GxRe Z pins σ0 gi QT) (GxY Z pins σ0 gi QF) n s₀ (.compStart (.GeneratorExp elt [⟨tg, iter, [], 0⟩] scope pos) 0 (.ref it) .none Z.env)
      ((model Z.prog Z.w).den (.compStart (.GeneratorExp elt [⟨tg, iter, [], 0⟩] scope pos) 0 (.ref it) .none Z.env)) [] s := by
  have loop := fun s₁ => seg_gex hA hc hx hpn hex hco hpp T pg pe turn m 0 n s₁ s H hmn w I hgi st nfp
  have go := seg_again (c := .compStart (.GeneratorExp elt [⟨tg, iter, [], 0⟩] scope pos) 0 (.ref it) .none Z.env) rfl (loop s₀)
  show Seg _ A _ _ n s₀ _ ((compStart (.GeneratorExp elt [⟨tg, iter, [], 0⟩] scope pos) 0 (.ref it) .none Z.env).onRaise (leaving Z.env)) [] s
  unfold compStart
  rw [Sem.onRaise_eq_wrap]
  show Seg _ A _ _ n s₀ _ ((ask >>= _).wrap _ _ _ _) [] s
  apply seg_bind_wrap
  apply wpAny_askSetting
  split
  · exact go
  · first
      | exact seg_bind_wrap (wpAny_rule (seg_bind_wrap (wpAny_standAt (seg_bind_wrap (T.self _ 0 s _ _ st go)))))
      | (apply seg_bind_wrap; apply wpAny_rule; show Seg _ A _ _ n s₀ _ ((standAt iter.pos >>= _).wrap _ _ _ _) [] s; exact seg_bind_wrap (wpAny_standAt (seg_bind_wrap (T.self _ 0 s _ _ st go))))
theorem woke_refl {s : Shared} (h : AllBare s.gens) : Woke s s := ⟨s.gens, s.toks, rfl, h, Nat.le_refl _⟩
theorem woke_set {s : Shared} {g : Nat} {x : GenState} (h : AllBare s.gens) (hx : x.bare = true) : Woke s (s.setGen g x) := ⟨_, s.toks, rfl, allBare_setGen h hx, Nat.le_of_eq (GenW.setGen_size s g x).symm⟩
theorem Woke.trans {s s1 s2 : Shared} (a : Woke s s1) (b : Woke s1 s2) : Woke s s2 := by
  obtain ⟨g1, t1, rfl, _, h1⟩ := a
  obtain ⟨g2, t2, rfl, b2, h2⟩ := b
  exact ⟨g2, t2, rfl, b2, Nat.le_trans h1 h2⟩
/-- what all's loop gives -/
def AllR (Z : Cx) (pins : List (Addr × Obj)) (σ0 : L2.St) (QT QF : Hp → Prop) (r : Result) (s : Shared) : Prop := ∃ b H, r = .ok (.ret (.bool b)) ∧ Inv Z pins σ0 H s ∧ (b = true → QT H) ∧ (b = false → QF H)
theorem all_loop {a : Addr} {nm qn : Value} (hh : A.handled = none) (hroom : A.in1.depth < recursionLimit) (hp : (a, ({ cls := .type "generator", data := .fields #[.int gi 0, nm, qn] } : Obj)) ∈ pins) : ∀ (n : Nat) (gs : GenState) (s : Shared) (H0 : Hp), Inv Z pins σ0 H0 s → s.gens[gi]? = some gs →
    (∀ s', Woke s s' → gs.Goes (model Z.prog Z.w) A.in1.in1 (GxRe Z pins σ0 gi QT) (GxY Z pins σ0 gi QF) n (.send .none) s') →
    codeAny (model Z.prog Z.w) A (.builtin "all.loop" ⟨[.ref a], []⟩) (AllR Z pins σ0 QT QF) s := by
  intro n
  induction n with
  | zero =>
    intro gs s H0 I hgs goes
    have ig : s.heap.IsGen a gi := ⟨_, nm, qn, (I.pin _ (List.mem_append_right _ hp)).1, rfl, rfl, rfl⟩
    refine codeAny_builtin F.entry_all_loop ?_
    rw [Around.under_plainId F.plain_all_loop _]
    show wpAny _ A.in1 (pyNext (.ref a) >>= _) _ _ s
    refine wpAny_bind (wpAny_pyNext_genexpQ (P := GxE Z pins σ0 gi QT) hh I.nolimit hroom ig hgs (goes _ (woke_set I.bare rfl)) (fun v s₁ gs' hb hv => ?_) (fun s₁ hq h' hk => ?_))
    · obtain ⟨b, H, rfl, I1, hg1, hF, hT⟩ := hv
      cases b with
      | true => exact (hT rfl _ (woke_refl I1.bare)).elim
      | false =>
        have I2 := Inv.woke I1 (woke_set (g := gi) I1.bare hb)
        refine wpAny_bind (wpAny_holding (wpAny_truthy_bool ?_))
        refine wpAny_bind (wpAny_letGo ?_)
        simp only [Bool.false_eq_true, if_false]
        exact wpAny_bind (wpAny_rule (wpAny_pure ⟨false, H, rfl, I2, (fun z => nomatch z), hF⟩))
    · obtain ⟨H, I1, hg1, qT⟩ := hq
      have I2 := (Inv.woke I1 (woke_set (g := gi) (x := .finished) I1.bare rfl)).kept (h' := h') (t' := s₁.toks) hk
      exact wpAny_bind (wpAny_rule (wpAny_pure ⟨true, H, rfl, I2, (fun _ => qT), (fun z => nomatch z)⟩))
  | succ n ih =>
    intro gs s H0 I hgs goes
    have ig : s.heap.IsGen a gi := ⟨_, nm, qn, (I.pin _ (List.mem_append_right _ hp)).1, rfl, rfl, rfl⟩
    refine codeAny_builtin F.entry_all_loop ?_
    rw [Around.under_plainId F.plain_all_loop _]
    show wpAny _ A.in1 (pyNext (.ref a) >>= _) _ _ s
    refine wpAny_bind (wpAny_pyNext_genexpQ (P := GxE Z pins σ0 gi QT) hh I.nolimit hroom ig hgs (goes _ (woke_set I.bare rfl)) (fun v s₁ gs' hb hv => ?_) (fun s₁ hq h' hk => ?_))
    · obtain ⟨b, H, rfl, I1, hg1, hF, hT⟩ := hv
      have wk := woke_set (g := gi) I1.bare hb
      have I2 := Inv.woke I1 wk
      refine wpAny_bind (wpAny_holding (wpAny_truthy_bool ?_))
      refine wpAny_bind (wpAny_letGo ?_)
      cases b with
      | true =>
        simp only [if_true]
        exact wpAny_pure ⟨plainId_quiet F.plain_all_loop _, ih gs' _ H I2 (setGen_at hg1) fun s' w' => hT rfl s' (wk.trans w')⟩
      | false =>
        simp only [Bool.false_eq_true, if_false]
        exact wpAny_bind (wpAny_rule (wpAny_pure ⟨false, H, rfl, I2, (fun z => nomatch z), hF⟩))
    · obtain ⟨H, I1, hg1, qT⟩ := hq
      have I2 := (Inv.woke I1 (woke_set (g := gi) (x := .finished) I1.bare rfl)).kept (h' := h') (t' := s₁.toks) hk
      exact wpAny_bind (wpAny_rule (wpAny_pure ⟨true, H, rfl, I2, (fun _ => qT), (fun z => nomatch z)⟩))
end
/-- all(elt for tg in iter); P: the def's table -/
def tAllG (P : Addr) (wi : TI) (g : TG) (te : TE) (vs : List Nat) : TE := fun σ H Q => wi σ H fun J H1 => H1 P = some (TabX P) ∧ ∃ W : Nat → Nat → Hp → Prop, (∃ m, W 0 m H1) ∧ Turns J g te vs (wipe σ vs) (Q (.bl true)) (Q (.bl false)) W
/-- a generator that is ready to be walked by all -/
def GexReady (X : Cx) (pins : List (Addr × Obj)) (σ : L2.St) (QT QF : Hp → Prop) (a : Addr) (s5 : Shared) : Prop := ∃ (Z : Cx) (pins' : List (Addr × Obj)) (σ0 : L2.St) (gi : Nat) (nm qn : Value) (n : Nat) (gs : GenState) (H0 : Hp),
  Z.prog = X.prog ∧ Z.w = X.w ∧ (a, ({ cls := .type "generator", data := .fields #[.int gi 0, nm, qn] } : Obj)) ∈ pins' ∧ Inv Z pins' σ0 H0 s5 ∧ s5.gens[gi]? = some gs ∧
  (∀ s', Woke s5 s' → gs.Goes (model Z.prog Z.w) X.A.in1.in1 (GxRe Z pins' σ0 gi QT) (GxY Z pins' σ0 gi QF) n (.send .none) s') ∧ ∀ H s', Inv Z pins' σ0 H s' → Inv X pins σ H s'
theorem gex_made {X : Cx} {c P : Addr} {elt tg iter : Expr} {gpos : Pos} {scope : Scope} {ts : List Str} {vs : List Nat} {wi : TI} {g : TG} {te : TE} {k : Nat} {pins : List (Addr × Obj)} {s : Shared} {σ : L2.St} {H : Hp} {Q : VK} {Q' : Value → Shared → Prop}
    (hr : Room (k + 1) X.A) (TB : GxR.TabB X.base X.mg c P) (hcode : X.env.code = .ref c) (S : GexS X.env.scope scope ts) (hts : ∀ (i : Nat) (x : Str), X.N[i]? = some x → x = (".0" : Str) ∨ x ∈ ts → i ∈ vs) (hi : PI X tg iter wi)
    (hpg : ∀ (A : Around) (s : Shared) (H : Hp) (C : Addr) (code : Value) (fp : List Addr), Room k A → PG (gexCx X A s H scope C code fp) tg g) (hpe : ∀ (A : Around) (s : Shared) (H : Hp) (C : Addr) (code : Value) (fp : List Addr), Room k A → PE (gexCx X A s H scope C code fp) elt te)
    (hs : ∀ v, genFold iter X.env v = pure v) (I : Inv X pins σ H s) (h : tAllG P wi g te vs σ H Q) (hQ : ∀ a s5, GexReady X pins σ (Q (.bl true)) (Q (.bl false)) a s5 → Q' (.ref a) s5) :
    wpAny (model X.prog X.w) X.A (eval (.GeneratorExp elt [⟨tg, iter, [], 0⟩] scope gpos) X.env) Q' X.xe s := by
  have hfree : ∀ y ∈ scope.names, y.2 = .free → ∃ c, X.env.cells.lookup y.1 = some c := fun y hy e => by
    rcases S.free y hy e with k | k
    · exact I.ok.has _ (.inl k)
    · exact I.ok.has _ (.inr k)
  refine wpAny_GeneratorExp_make S.co (closure_ok hfree) S.cell S.dot S.kind hr.depth ?_ hs
  refine thn (hi.run pins s σ H _ I h) fun xv s1 hx => thn hx fun itv s2 h2 => ?_
  obtain ⟨it, fp, tn, J, H2, e, I2, T, st2, f2, hP, W, ⟨m0, w0⟩, turn⟩ := h2
  subst e
  obtain ⟨ps, hPs, ht⟩ := tabX_at I2 hP
  have sz : ∀ b ∈ fp, b < s2.heap.objs.size := fun b hb => by
    obtain ⟨o, e, _⟩ := T.obj _ _ st2 b hb
    exact Heap.lt_size e
  have fpP : ∀ b ∈ fp, b ≠ P := fun b hb z => by
    have q := (f2 b hb).1
    rw [z, hP] at q
    cases q
  have cd : PySem.W.CodeHd s2.heap c P := TB.code.keeps fun b u e => I2.bk b u e
  refine ⟨I2.nolimit, ?_⟩
  -- behind the code object: whatever the table holds by now
  have cont : ∀ (code : Value) (h3 : Heap) (tk : Nat) (ps' : Array Value), (∀ b o, b ≠ P → s2.heap.get? b = some o → h3.get? b = some o) → s2.heap.objs.size ≤ h3.objs.size → h3.get? P = some { cls := .none, data := .fields ps' } → TriplesOk ps'.toList →
      wpAny (model X.prog X.w) X.A (builtinsFor X.env.globals X.env.builtins) (fun bi s₄ => ∀ h', h'.Ns s₄.heap.objs.size (fun y => if y = ".0" then some (.ref it) else none) → Heap.SameBut s₄.heap.objs.size (s₄.heap.push { cls := .type "frame", data := .dict #[] }) h' →
        Q' (.ref h'.objs.size) { s₄ with gens := s₄.gens.push (.fresh (.compStart (.GeneratorExp elt [⟨tg, iter, [], 0⟩] scope gpos) 0 (.ref it) .none (genEnv scope (cloFrom X.env.cells scope.names []) s₄.heap.objs.size code bi X.env))), toks := s₄.toks + 1 + 1 + 1, heap := h'.push { cls := .type "generator", data := .fields #[.int s₄.gens.size 0, .str "<genexpr>" (s₄.toks + 1), .str (X.env.qual ++ "<genexpr>") (s₄.toks + 1 + 1)] } }) X.xe { s2 with heap := h3, toks := tk } := by
    intro code h3 tk ps' keep3 hsz hP3 ht3
    have I3 : Inv X pins σ H2 { s2 with heap := h3, toks := tk } := inv_tabX I2 hP keep3 hP3 ht3 I2.bare
    obtain ⟨bm, ob, e1, e2, e3, e4, e5, e6, e7, e8⟩ := TB.bm
    refine wpAny_builtinsFor (m := X.mg) (by rw [I2.ok.glob]; exact I2.mod.glob.keeps fun b u e => I3.bk b u e) e1 e2 (keep3 _ _ e4 (I2.bk _ _ e5)) e6 e7 e8 ?_
    intro h' hn' hs'
    have st3 : tn 0 h3 := T.keep _ _ _ st2 fun b hb o e => keep3 b o (fpP b hb) e
    generalize hs3 : ({ s2 with heap := h3, toks := tk } : Shared) = s3 at *
    have hh3 : s3.heap = h3 := by rw [← hs3]
    rw [← hh3] at st3 hP3
    have f3 : ∀ b ∈ fp, FpOk X pins H2 b ∧ b < s3.heap.objs.size := fun b hb => ⟨f2 b hb, Nat.lt_of_lt_of_le (sz b hb) (by rw [hh3]; exact hsz)⟩
    have hsz' : h'.objs.size = s3.heap.objs.size + 1 := by rw [hs'.1, Heap.size_push]
    have keep' : ∀ b o, s3.heap.get? b = some o → h'.get? b = some o := fun b o e => hs'.extBut b o (Nat.ne_of_lt (Heap.lt_size e)) (Heap.get?_push_of_some _ e)
    generalize hnm : Value.str "<genexpr>" (s3.toks + 1) = nm
    generalize hqn : Value.str (X.env.qual ++ "<genexpr>") (s3.toks + 1 + 1) = qn
    generalize hgob : ({ cls := .type "generator", data := .fields #[.int s3.gens.size 0, nm, qn] } : Obj) = gob
    generalize hcs : Code.compStart (.GeneratorExp elt [⟨tg, iter, [], 0⟩] scope gpos) 0 (.ref it) .none (genEnv scope (cloFrom X.env.cells scope.names []) s3.heap.objs.size code builtinsNs X.env) = cs
    have keep5 : ∀ b o, s3.heap.get? b = some o → (h'.push gob).get? b = some o := fun b o e => Heap.get?_push_of_some _ (keep' b o e)
    have fr1 : X.A.in1.in1.frames = some X.stack := I3.ok.frames
    have bare5 : AllBare (s3.gens.push (.fresh cs)) := I3.bare.push rfl
    have I4 := gex_start (A := X.A.in1.in1.over (gexGo elt tg iter scope gpos it (gexEnv X scope s3.heap.objs.size code)) []) (code := code) (vs := vs) (h₁ := h'.push gob) (g₁ := s3.gens.push (.fresh cs)) (d₁ := s3.drawn) (t₁ := s3.toks + 1 + 1 + 1) I3 S hr.hd (over_frames fr1) f3 hts
      (hn'.push _) keep5 bare5
    have st5 : tn 0 (h'.push gob) := T.keep _ _ _ st3 fun b _ o e => keep5 b o e
    have gat : (h'.push gob).get? h'.objs.size = some gob := Heap.get?_push_size _ (by rw [← hgob]; rfl)
    have rA : Room k (X.A.in1.in1.over (gexGo elt tg iter scope gpos it (gexEnv X scope s3.heap.objs.size code)) []) := ⟨hr.hd, by
      have := hr.dp
      show X.A.depth + 1 + 3 * k + 5 < recursionLimit
      omega, by
      have := hr.un
      show X.A.units + 1 + 1 + 3 + 16 * k + 200 < cLine
      omega⟩
    have I5 := I4.pins_of (pins' := [(h'.objs.size, gob)]) fun q hq => by
      obtain rfl := List.mem_singleton.mp hq
      refine ⟨gat, I3.hok.fresh (by rw [hsz']; exact Nat.le_succ _), ?_, fun z => ?_, fun v z => ?_⟩
      · show h'.objs.size ≠ s3.heap.objs.size
        rw [hsz']
        exact Nat.succ_ne_self _
      · have z : h'.objs.size ∈ frs X.stack := z
        rcases List.mem_cons.mp (I3.stkSub _ z) with q | q
        · have this := I3.lt
          rw [← q, hsz'] at this
          exact absurd (Nat.lt_of_succ_lt this) (Nat.lt_irrefl _)
        · exact I3.nofs (by rw [hsz']; exact Nat.le_succ _) q
      · rw [← hgob] at z
        cases z
    refine hQ _ _ ⟨gexCx X (X.A.in1.in1.over (gexGo elt tg iter scope gpos it (gexEnv X scope s3.heap.objs.size code)) []) s3 H2 scope s3.heap.objs.size code fp, [(h'.objs.size, gob)], wipe σ vs, s3.gens.size, nm, qn, m0 + 1, .fresh cs, H2, rfl, rfl, by rw [hgob]; exact List.mem_singleton.mpr rfl, I5, Array.getElem?_push_size .., fun s' wk => ⟨rfl, ?_⟩, fun H' s' I' => ?_⟩
    · have gz : s3.gens.size < s'.gens.size := by
        obtain ⟨g', t', rfl, _, hz⟩ := wk
        have hz : (s3.gens.push (.fresh cs)).size ≤ g'.size := hz
        rw [Array.size_push] at hz
        exact hz
      have eh : s'.heap = h'.push gob := by
        obtain ⟨g', t', rfl, _, _⟩ := wk
        rfl
      rw [← hcs]
      exact seg_gex0 rfl rfl rfl rfl rfl S.co (fun b hb q hq z => by
        obtain rfl := List.mem_singleton.mp hq
        have := (f3 b hb).2
        have z : h'.objs.size = b := z
        rw [← z, hsz'] at this
        exact absurd (Nat.lt_of_succ_lt this) (Nat.lt_irrefl _)) T (hpg _ _ _ _ _ _ rA) (hpe _ _ _ _ _ _ rA) turn (Nat.lt_succ_self m0) w0 (Inv.woke I5 wk) gz (by rw [eh]; exact st5) (fun b hb => (f3 b hb).1.1)
    · exact I3.call' (ch := fp) I'.os I'.base I'.hok I'.bare fun b hb => ⟨(f3 b hb).1.2.2.2.1, (f3 b hb).1.2.1, (f3 b hb).1.2.2.2.2.1, (f3 b hb).1.2.2.2.2.2⟩
  cases hf : codeAmong gpos ps.toList with
  | none =>
    refine wpAny_genexprCodeX hcode (cd.code hPs ht) (cd.tab hPs) hf fun c' h' tk hx hge hlt hco' _ htab' _ => ?_
    obtain ⟨o1, vs1, f1, tf, fl, tg1, inF, tx, tt, op, _, _, _, _, _, _, _, _, _, htr, _⟩ := hco'
    exact cont _ h' tk _ (fun b o hb q => hx b o hb q) (Nat.le_trans hge (Nat.le_of_lt hlt)) htab'.2 htr
  | some cv =>
    refine wpAny_genexprCode_hit hcode (cd.code hPs ht) hf ?_
    exact cont cv s2.heap s2.toks ps (fun _ _ _ q => q) (Nat.le_refl _) hPs ht
theorem pe_allG {X : Cx} {c P : Addr} {elt tg iter : Expr} {p pos gpos : Pos} {scope : Scope} {ts : List Str} {vs : List Nat} {wi : TI} {g : TG} {te : TE} {k : Nat}
    (hr : Room (k + 1) X.A) (hg : Gl X "all") (hm : X.mg "all" = none) (TB : GxR.TabB X.base X.mg c P) (hcode : X.env.code = .ref c) (S : GexS X.env.scope scope ts) (hts : ∀ (i : Nat) (x : Str), X.N[i]? = some x → x = (".0" : Str) ∨ x ∈ ts → i ∈ vs) (hi : PI X tg iter wi)
    (hpg : ∀ (A : Around) (s : Shared) (H : Hp) (C : Addr) (code : Value) (fp : List Addr), Room k A → PG (gexCx X A s H scope C code fp) tg g) (hpe : ∀ (A : Around) (s : Shared) (H : Hp) (C : Addr) (code : Value) (fp : List Addr), Room k A → PE (gexCx X A s H scope C code fp) elt te)
    (hs : ∀ v, genFold iter X.env v = pure v := by intro _; rfl) (hb : bootBuiltins "all" = some (.builtin "all") := by rfl)
    (he : starEach [.GeneratorExp elt [⟨tg, iter, [], 0⟩] scope gpos] X.env = (false, eval (.GeneratorExp elt [⟨tg, iter, [], 0⟩] scope gpos) X.env) :: starEach [] X.env := by rfl) :
    PE X (.Call (.Name "all" p) [.GeneratorExp elt [⟨tg, iter, [], 0⟩] scope gpos] [] pos) (tAllG P wi g te vs) := by
  refine ⟨fun pins s σ H Q I h => ?_⟩
  apply wpAny_Call_Name_kw
  refine ld_blt I hg hm hb ?_
  refine PyProof.Rows.callWith_builtin1 ?_ he (by rfl)
  rw [he]
  show wpAny _ _ (spliced ((false, eval (.GeneratorExp elt [⟨tg, iter, [], 0⟩] scope gpos) X.env) :: backTo pos (starEach [] X.env))) _ _ s
  refine Calls.spliced_cons (gex_made hr TB hcode S hts hi hpg hpe hs I h fun a s5 rdy => ?_)
  apply Calls.spliced_nil
  obtain ⟨Z, pins', σ0, gi, nm, qn, n, gs, H0, ep, ew, hmem, IZ, hgs, goes, ret⟩ := rdy
  have ig : s5.heap.IsGen a gi := ⟨_, nm, qn, (IZ.pin _ (List.mem_append_right _ hmem)).1, rfl, rfl, rfl⟩
  refine call_function_tree F.kind_all F.plain_all F.entry_all (F.args_all1 _) ?_
  unfold Builtin.«all»
  refine wpAny_bind (m := oneArg "all" _) (wpAny_pure ?_)
  refine wpAny_bind (wpAny_pyIter_gen ig ?_)
  have lp := all_loop (Z := Z) (A := X.A) (σ0 := σ0) (QT := Q (.bl true)) (QF := Q (.bl false)) hr.hd hr.depth hmem n gs s5 H0 IZ hgs goes
  rw [ep, ew] at lp
  refine wpAny_pure ⟨plainId_quiet F.plain_all_loop _, codeAny_mono lp fun r s' hR => ?_⟩
  obtain ⟨b, H', rfl, I', hT, hF⟩ := hR
  refine ⟨.bl b, H', ret H' s' I', rfl, ?_⟩
  cases b with
  | true => exact hT rfl
  | false => exact hF rfl
end DL

set_option Elab.async false
set_option linter.all false
set_option maxRecDepth 100000
set_option autoImplicit false
/-! all(element for target in things), over data -/
namespace DL
open PySem PySem.Spec PyProof.Rows L2
variable [Tabs]
def allL (f : D → DS → R (Option D)) : List D → DS → R Bool
  | [], δ => .ok true δ
  | d :: ds, δ => match f d δ with
    | .ok (some (.bool true)) δ1 => allL f ds δ1
    | .ok (some (.bool false)) δ1 => .ok false δ1
    | _ => .bad
def dAllG (vs : List Nat) (ti : Di) (g : Dg) (te : De) : De := fun δ => (ti δ).bind fun ds δ1 => okIf (small ds.length && freeAt vs δ1) (match allL (turnL vs g dYes te) ds δ1 with
  | .ok b δ2 => .ok (.fz (.bool b)) δ2
  | _ => .bad)
theorem allL_cons {f : D → DS → R (Option D)} {d : D} {ds : List D} {b : Bool} {δ δe : DS} (h : allL f (d :: ds) δ = .ok b δe) : ∃ k δ1, f d δ = .ok (some (.bool k)) δ1 ∧ (k = true → allL f ds δ1 = .ok b δe) ∧ (k = false → b = false ∧ δ1 = δe) := by
  unfold allL at h
  split at h
  · rename_i δ1 e
    exact ⟨true, δ1, e, fun _ => h, (fun z => nomatch z)⟩
  · rename_i δ1 e
    cases h
    exact ⟨false, _, e, (fun z => nomatch z), fun _ => ⟨rfl, rfl⟩⟩
  · cases h
section
variable {X : Cx} {C : Cf}
theorem all_turn {G : Ct} {δ : DS} {σ : L2.St} {F H : Hp} {vs ts : List Nat} {g : Dg} {te : De} {d : D} {b : Bool} {δ1 : DS} {x : V} {Nx QF : Hp → Prop} (k : St1 G δ σ F H) (w : Dp G.K F x d) (hts : ∀ t ∈ ts, t ∈ vs) (hv : freeAt vs δ = true)
    (e : turnL vs g dYes te d δ = .ok (some (.bool b)) δ1) (qT : b = true → ∀ F' H', St1 G δ1 σ F' H' → Same F F' → Nx H') (qF : b = false → ∀ F' H', St1 G δ1 σ F' H' → Same F F' → QF H') :
    upG (nox G.C) ts g x (wipe σ vs) H fun σ2 H2 => wipe σ2 vs = wipe σ vs ∧ up (nox G.C) te σ2 H2 fun y H3 => ∃ b, y = .bl b ∧ (b = true → Nx H3) ∧ (b = false → QF H3) := by
  have kb := blk_in (C' := nox G.C) (vs := vs) k rfl hv
  unfold turnL onTurn at e
  refine ⟨G.blk (nox G.C) δ σ F H, _, F, d, rfl, kb, w, ?_⟩
  cases e1 : g d (wipeD (δ.map toArg) vs) with
  | ok og δ2 =>
    rw [e1] at e
    cases og with
    | nx =>
      intro σ2 F2 H2 k2 g2 a2
      have wl : σ2.length = (wipe σ vs).length := a2.2
      refine ⟨?_, ?_⟩
      · have z : wipe σ2 vs = wipe (wipe σ vs) vs := wipe_eq (fun j hj => a2.1 j fun z => hj (hts j z)) wl
        rw [z]
        exact wipe_eq (fun j hj => wipe_out hj) (wipe_length σ vs)
      · rw [wipe_length] at wl
        have e : backR δ ((te δ2).bind fun x δ4 => (kp x δ4).bind fun d δ5 => R.ok (some d) δ5) = .ok (some (.bool b)) δ1 := e
        cases e3 : te δ2 with
        | ok x4 δ4 =>
          rw [e3] at e
          refine ⟨G.blk (nox G.C) δ σ F H, δ2, F2, rfl, k2, ?_⟩
          rw [e3]
          intro y F4 H4 k4 g4 w4
          have e : backR δ ((kp x4 δ4).bind fun d δ5 => R.ok (some d) δ5) = .ok (some (.bool b)) δ1 := e
          cases e4 : kp x4 δ4 with
          | ok d5 δ5 =>
            rw [e4] at e
            have e : R.ok (some d5) (back δ δ5) = R.ok (some (.bool b)) δ1 := e
            cases e
            obtain ⟨F5, k5, g5, w5⟩ := k4.keepV w4 e4
            have k6 := blk_out (C' := nox G.C) k rfl k5 wl
            have ey : y = .bl b := by cases w5; rfl
            exact ⟨b, ey, fun h => qT h F5 H4 k6 ((g2.trans g4).trans g5), fun h => qF h F5 H4 k6 ((g2.trans g4).trans g5)⟩
          | ex cc s => rw [e4] at e; cases e
          | bad => rw [e4] at e; cases e
        | ex cc s => rw [e3] at e; cases e
        | bad => rw [e3] at e; cases e
    | bk => cases e
    | ct => cases e
    | rt v => cases e
  | ex cc s => rw [e1] at e; cases e
  | bad => rw [e1] at e; cases e
theorem turnL_free {vs : List Nat} {g : Dg} {tt : Dt} {te : De} {d : D} {o : Option D} {δ δ1 : DS} (e : turnL vs g tt te d δ = .ok o δ1) (hv : freeAt vs δ = true) : freeAt vs δ1 = true := by
  unfold turnL backR at e
  split at e
  · cases e
    exact freeAt_back hv
  · cases e
theorem rf_allG {P : Addr} {vs ts : List Nat} {ti : Di} {g : Dg} {te : De} (hP : P ∈ Tabs.T) (hts : ∀ t ∈ ts, t ∈ vs) : ∀ σ H Q, up C (dAllG vs ti g te) σ H Q → tAllG P (upI C ti) (upG (nox C) ts g) (up (nox C) te) vs σ H Q := fun σ H Q ⟨G, δ, F, hC, k, h⟩ => by
  subst hC
  refine ⟨G, δ, F, rfl, k, finA_bind h fun ds δ1 J F1 H1 k1 g1 w1 h1 => ?_⟩
  have w1 : ItOk G.K J F1 ds := w1
  obtain ⟨z, h2⟩ := okIf_fin h1
  rw [Bool.and_eq_true] at z
  obtain ⟨z1, z2⟩ := z
  refine ⟨k1.fh _ _ (k1.tabF P hP), ?_⟩
  cases ec : allL (turnL vs g dYes te) ds δ1 with
  | ex c s => rw [ec] at h2; exact h2.elim
  | bad => rw [ec] at h2; exact h2.elim
  | ok L δe =>
    rw [ec] at h2
    have fin : ∀ (b : Bool) (F' : Hp) (H' : Hp), b = L → St1 G δe σ F' H' → Same F1 F' → Q (.bl b) H' := fun b F' H' eb kk ff => by
      subst eb
      exact h2 (.bl b) F' H' kk ff (.bl b)
    refine ⟨fun i m H => m = ds.length - i ∧ i ≤ ds.length ∧ ∃ δ F, St1 G δ σ F H ∧ Same F1 F ∧ freeAt vs δ = true ∧ allL (turnL vs g dYes te) (ds.drop i) δ = .ok L δe, ⟨ds.length, by simp, Nat.zero_le _, δ1, F1, k1, Same.refl F1, z2, ec⟩, ?_⟩
    rintro i m H2 ⟨rfl, hi, δ2, F2, k2, g2, hv, e2⟩
    obtain ⟨wgo, wst⟩ := w1 F2 H2 g2 k2.fh i
    by_cases hlt : i < ds.length
    · right
      obtain ⟨go, yl⟩ := wgo ds[i] (List.getElem?_eq_getElem hlt)
      rw [List.drop_eq_getElem_cons hlt] at e2
      obtain ⟨kk, δ3, e3, e4, e5⟩ := allL_cons e2
      refine ⟨go, fun H' => kk = true ∧ ∃ F', St1 G δ3 σ F' H' ∧ Same F1 F', fun H' ⟨hk, F', q1, q2⟩ => ⟨ds.length - (i + 1), by omega, rfl, hlt, δ3, F', q1, q2, turnL_free e3 hv, e4 hk⟩, fun x H3 y => ?_⟩
      obtain ⟨F3, f1, f2, f3, f4, w3⟩ := yl x H3 y
      have k3 := grow_it k2 f1 f2 f3 f4
      refine all_turn k3 w3 hts hv e3 (fun hk F' H' q1 q2 => ⟨hk, F', q1, (g2.trans f1).trans q2⟩) fun hk F' H' q1 q2 => ?_
      obtain ⟨eL, eδ⟩ := e5 hk
      subst eδ
      exact fin false F' H' eL.symm q1 ((g2.trans f1).trans q2)
    · left
      have e : i = ds.length := by omega
      subst e
      refine ⟨wst rfl, ?_⟩
      rw [List.drop_length] at e2
      cases e2
      exact fin true F2 H2 rfl k2 g2
theorem pd_allG {elt tg iter : Expr} {p pos gpos : Pos} {scope : Scope} {names : List Str} {vs ts : List Nat} {ti : Di} {g : Dg} {te : De} {k : Nat} {c P : Addr} (hP : P ∈ Tabs.T) (TB : GxR.TabB X.base X.mg c P) (hr : Room (k + 1) X.A) (hm : X.mg "all" = none) (hcode : X.env.code = .ref c) (S : GexS X.env.scope scope names)
    (hix : ∀ (i : Nat) (x : Str), X.N[i]? = some x → x = (".0" : Str) ∨ x ∈ names → i ∈ vs) (hi : PI X tg iter (upI C ti))
    (hpg : ∀ (A : Around) (s : Shared) (H : Hp) (Ca : Addr) (code : Value) (fp : List Addr), Room k A → PG (gexCx X A s H scope Ca code fp) tg (upG (nox C) ts g)) (hpe : ∀ (A : Around) (s : Shared) (H : Hp) (Ca : Addr) (code : Value) (fp : List Addr), Room k A → PE (gexCx X A s H scope Ca code fp) elt (up (nox C) te))
    (hts : ∀ t ∈ ts, t ∈ vs := by decide) (hg : Gl X "all" := by rfl) (hs : ∀ v, genFold iter X.env v = pure v := by intro _; rfl) (hb : bootBuiltins "all" = some (.builtin "all") := by rfl)
    (he : starEach [.GeneratorExp elt [⟨tg, iter, [], 0⟩] scope gpos] X.env = (false, eval (.GeneratorExp elt [⟨tg, iter, [], 0⟩] scope gpos) X.env) :: starEach [] X.env := by rfl) :
    PE X (.Call (.Name "all" p) [.GeneratorExp elt [⟨tg, iter, [], 0⟩] scope gpos] [] pos) (up C (dAllG vs ti g te)) := pe_weak (pe_allG hr hg hm TB hcode S hix hi hpg hpe hs hb he) (rf_allG hP hts)
end
end DL

set_option Elab.async false
set_option linter.all false
set_option maxRecDepth 100000
set_option autoImplicit false
/-! what stands while lists elsewhere are emptied: slots whose things share no list with them -/
namespace DL
open PySem PySem.Spec PyProof.Rows L2
variable [Tabs]
/-- a list with something in it -/
def full : D → Prop
  | .list (_ :: _) => True
  | _ => False
/-- no list with something in it lies within both -/
def Apart (d e : D) : Prop := ∀ x, full x → x ∈ subs d → x ∈ subs e → False
def slApart (d : D) : Sl → Prop
  | .fz e => e.canLay0 = true ∧ Apart d e
  | .own (.lst ds) => PyData.canLayAll0 ds = true ∧ ∀ e ∈ ds, Apart d e
  | _ => False
/-- of the slots only those stay -/
def keepAt (ks : List Nat) (δ : DS) : DS := (List.range δ.length).map fun j => if j ∈ ks then δ.getD j .no else .no
theorem keepAt_get {ks : List Nat} {δ : DS} {j : Nat} {s : Sl} (h : (keepAt ks δ)[j]? = some s) : s = .no ∨ (j ∈ ks ∧ δ[j]? = some s) := by
  unfold keepAt at h
  rw [List.getElem?_map] at h
  cases e : (List.range δ.length)[j]? with
  | none => rw [e] at h; cases h
  | some i =>
    rw [e] at h
    have hi := List.getElem?_eq_some_iff.mp e
    obtain ⟨l, q⟩ := hi
    rw [List.getElem_range] at q
    subst q
    rw [List.length_range] at l
    by_cases m : j ∈ ks
    · right
      refine ⟨m, ?_⟩
      have h : (if j ∈ ks then δ.getD j .no else .no) = s := Option.some.inj h
      rw [if_pos m, List.getD_eq_getElem?_getD] at h
      rw [List.getElem?_eq_getElem l] at h ⊢
      exact congrArg some h
    · left
      have h : (if j ∈ ks then δ.getD j .no else .no) = s := Option.some.inj h
      rw [if_neg m] at h
      exact h.symm
theorem keepAt_len {ks : List Nat} {δ : DS} : (keepAt ks δ).length = δ.length := by
  unfold keepAt
  simp
def Good (n : Nat) (ks : List Nat) (d : D) (δ : DS) : Prop := d.canLay0 = true ∧ dep d < n ∧ ∀ j ∈ ks, ∃ s, δ[j]? = some s ∧ slApart d s
open Classical in
/-- the call of a def that empties slot i's lists -/
noncomputable def dSpoil (n i : Nat) (ks : List Nat) : Ds := fun δ => match δ[i]? with
  | some (.fz d) => okIf (decide (Good n ks d δ)) (.ok .nx (keepAt ks δ))
  | _ => .bad
/-! ### a law's own body: nothing is wanted of what stood at its beginning -/
def Bare0 (G : Ct) : Prop := (∀ b xs, G.F0 b ≠ some (.lst xs)) ∧ (∀ b xs, G.H0 b ≠ some (.lst xs)) ∧ ∀ i, G.M i = none
def hp0 : Hp := fun _ => none
theorem same0 {F : Hp} : Same hp0 F := fun b o e => by cases e
def upz (C : Cf) (sd : Ds) : TS := fun D σ H => ∃ G δ F, G.C = C ∧ Bare0 G ∧ St1 G δ σ F H ∧ finS G (sd δ) hp0 D
section
variable {X : Cx} {C : Cf} {e a b c : Expr} {ta tb tc : De} {pos : Pos} {st : Stmt} {rest : List Stmt} {s1 s2 : Ds}
theorem upz_ups {D : Ends} {σ : L2.St} {H : Hp} {sd : Ds} (h : upz C sd D σ H) : ups C sd D σ H := by
  obtain ⟨G, δ, F, hC, b, k, h⟩ := h
  exact ⟨G, δ, F, hC, k, finS_mono h same0⟩
theorem psz (h : PS X st (ups C s1)) : PS X st (upz C s1) := ps_weak h fun D σ H q => upz_ups q
theorem pszs {sts : List Stmt} (h : PSs X sts (ups C s1)) : PSs X sts (upz C s1) := pss_weak h fun D σ H q => upz_ups q
/-- a statement that keeps all, ahead of others -/
theorem pz_cons (h1 : PS X st (ups C s1)) (h2 : PSs X rest (upz C s2)) : PSs X (st :: rest) (upz C (dSeq s1 s2)) := pss_weak (pss_cons h1 h2) fun D σ H ⟨G, δ, F, hC, b, k, h⟩ => ⟨G, δ, F, hC, k, by
  unfold dSeq at h
  cases e : s1 δ with
  | ok o δ1 =>
    rw [e] at h
    cases o with
    | nx => exact fun σ' F' H' k' g => ⟨G, δ1, F', hC, b, k', h⟩
    | bk => exact finS_mono h same0
    | ct => exact finS_mono h same0
    | rt v => exact finS_mono h same0
  | ex c δ1 => rw [e] at h; exact finS_mono h same0
  | bad => rw [e] at h; exact h⟩
/-- any one, ahead of others -/
theorem pz_conz (h1 : PS X st (upz C s1)) (h2 : PSs X rest (upz C s2)) : PSs X (st :: rest) (upz C (dSeq s1 s2)) := pss_weak (pss_cons h1 h2) fun D σ H ⟨G, δ, F, hC, b, k, h⟩ => ⟨G, δ, F, hC, b, k, by
  unfold dSeq at h
  cases e : s1 δ with
  | ok o δ1 =>
    rw [e] at h
    cases o with
    | nx => exact fun σ' F' H' k' g => ⟨G, δ1, F', hC, b, k', h⟩
    | bk => exact h
    | ct => exact h
    | rt v => exact h
  | ex c δ1 => rw [e] at h; exact h
  | bad => rw [e] at h; exact h⟩
theorem pz_one (h1 : PS X st (upz C s1)) : PSs X [st] (upz C s1) := pss_one h1
/-! ### a loop over numbers in such a body -/
def WI0 (G : Ct) : DS → Hp → Hp → It → List D → Prop := fun _ _ _ J ds => ItOk G.K J hp0 ds
def upI0 (C : Cf) (ti : Di) : TI := fun σ H Q => ∃ G δ F, G.C = C ∧ St1 G δ σ F H ∧ finA G (WI0 G) (ti δ) σ F Q
theorem pdi_range0 {tg : Expr} {tl : Dl} {p : Pos} (hm : X.mg "range" = none) (ha : PA X [a] (upL C tl)) (hg : Gl X "range" := by rfl) (hs : starEach [a] X.env = [(false, eval a X.env)] := by rfl) : PI X tg (.Call (.Name "range" p) [a] [] pos) (upI0 C (dRange1 tl)) :=
  pi_weak (pi_range1 hg hm ha hs) fun σ H R ⟨G, δ, F, hC, k, h⟩ => by
    subst hC
    refine ⟨G, δ, F, rfl, k, finA_bind h fun ds δ1 vs F1 H1 k1 g1 w1 h1 => ?_⟩
    have w1 : DpAll G.K F1 vs ds := w1
    cases w1 with
    | nil => exact h1.elim
    | cons w ws =>
      cases ws with
      | cons _ _ => cases w <;> exact h1.elim
      | nil =>
        cases w with
        | int n =>
          obtain ⟨z, h2⟩ := okIf_fin h1
          rw [Bool.and_eq_true] at z
          have z1 := of_decide_eq_true z.1
          have z2 := of_decide_eq_true z.2
          refine ⟨n, rfl, by omega, by omega, h2 _ F1 H1 k1 (Same.refl F1) ?_⟩
          have q := it_range (K := G.K) (F := hp0) (lo := 0) (n := n.toNat)
          have q : ItOk G.K (Itr 0 n.toNat) hp0 ((List.range n.toNat).map fun (i : Nat) => PyData.int i) := by simpa using q
          exact q
        | _ => exact h1.elim
theorem finS_bind0 {α β : Type} {G : Ct} {W : DS → Hp → Hp → β → α → Prop} {r : R α} {k : α → DS → R Out} {σ : L2.St} {F : Hp} {D : Ends} {Q : β → Hp → Prop} (h : finS G (r.bind k) hp0 D)
    (hk : ∀ a δ1 v F1 H1, St1 G δ1 σ F1 H1 → Same F F1 → W δ1 F1 H1 v a → finS G (k a δ1) hp0 D → Q v H1) : finA G W r σ F Q := by
  cases r with
  | ok a δ => exact fun v F1 H1 s g w => hk a δ v F1 H1 s g w h
  | ex c δ => exact fun F' H' s g => h σ F' H' s same0
  | bad => exact h
theorem pz_for {tg : Expr} {ti : Di} {g : Dg} {ts : List Nat} {body : List Stmt} {sb : Ds} (hp : PassesOwn (model X.prog X.w) X.A X.env X.xe) (hi : PI X tg e (upI0 C ti)) (hg : PG X tg (upG C ts g)) (hb : PSs X body (upz C sb)) (hc : X.calm = true := by rfl)
    (hs : ∀ x, foldedSetIterable e X.env x = pure x := by intro _; rfl) : PS X (.For tg e body [] pos) (upz C (dFor ti g sb)) := ps_weak (ps_for hp hc hi hg hb hs) fun D σ H ⟨G, δ, F, hC, bare, k, h⟩ => by
  subst hC
  refine ⟨G, δ, F, rfl, k, finS_bind0 h fun ds δ1 J F1 H1 k1 g1 w1 h1 => ?_⟩
  have w1 : ItOk G.K J hp0 ds := w1
  refine ⟨fun i m σ H => m = ds.length - i ∧ i ≤ ds.length ∧ ∃ δ F, St1 G δ σ F H ∧ finS G (forL (stepB g sb) (ds.drop i) δ) hp0 D, ⟨ds.length, by simp, Nat.zero_le _, δ1, F1, k1, h1⟩, ?_⟩
  rintro i m σ2 H2 ⟨rfl, hi, δ2, F2, k2, h2⟩
  obtain ⟨wgo, wst⟩ := w1 F2 H2 same0 k2.fh i
  by_cases hlt : i < ds.length
  · right
    obtain ⟨go, yl⟩ := wgo ds[i] (List.getElem?_eq_getElem hlt)
    rw [List.drop_eq_getElem_cons hlt] at h2
    refine ⟨go, fun σ' H' => ∃ δ F, St1 G δ σ' F H' ∧ finS G (forL (stepB g sb) (ds.drop (i + 1)) δ) hp0 D, fun σ' H' ⟨δ', F', a, c⟩ => ⟨ds.length - (i + 1), by omega, rfl, hlt, δ', F', a, c⟩, fun x H3 y => ?_⟩
    obtain ⟨F3, f1, f2, f3, f4, w3⟩ := yl x H3 y
    have k3 := grow_it k2 f1 f2 f3 f4
    refine ⟨G, δ2, F3, ds[i], rfl, k3, w3, ?_⟩
    unfold forL stepB at h2
    cases e1 : g ds[i] δ2 with
    | ok o δ3 =>
      rw [e1] at h2
      cases o with
      | nx =>
        intro σ' F' H' k' f' _
        refine ⟨G, δ3, F', rfl, bare, k', ?_⟩
        simp only at h2
        cases e2 : sb δ3 with
        | ok o δ4 =>
          rw [e2] at h2
          cases o with
          | nx => exact fun σ4 F4 H4 k4 f4 => ⟨δ4, F4, k4, h2⟩
          | ct => exact fun σ4 F4 H4 k4 f4 => ⟨δ4, F4, k4, h2⟩
          | bk => exact h2
          | rt v => exact h2
        | ex c δ4 => rw [e2] at h2; exact h2
        | bad => rw [e2] at h2; exact h2
      | bk => exact h2.elim
      | ct => exact h2.elim
      | rt v => exact h2.elim
    | ex c δ3 => rw [e1] at h2; exact h2.elim
    | bad => rw [e1] at h2; exact h2.elim
  · left
    have e : i = ds.length := by omega
    subst e
    refine ⟨wst rfl, ?_⟩
    rw [List.drop_length] at h2
    exact h2 σ2 F2 H2 k2 same0
end
/-! ### the step: lists within d are emptied -/
mutual
theorem dp_fun {K : PySem.W.Frag} {F : Hp} : ∀ (d e : D) (v : V), d.canLay0 = true → e.canLay0 = true → Dp K F v d → Dp K F v e → d = e
  | .none, e, _, _, ce, h, h' => by cases h; cases h'; rfl
  | .bool b, e, _, _, ce, h, h' => by cases h; cases h'; rfl
  | .int i, e, _, _, ce, h, h' => by cases h; cases h'; rfl
  | .str x, e, _, _, ce, h, h' => by cases h; cases h'; rfl
  | .list ds, e, _, c, ce, h, h' => by
    cases h with
    | lst a w =>
      cases h' with
      | lst a' w' =>
        rw [a] at a'
        cases a'
        rw [dpa_fun ds _ _ c ce w w']
      | tup a' w' => rw [a] at a'; cases a'
      | dct a' w' => cases ce
      | exc x a' => cases ce
      | opq a' => cases ce
      | scr a' => cases ce
  | .tuple ds, e, _, c, ce, h, h' => by
    cases h with
    | tup a w =>
      cases h' with
      | tup a' w' =>
        rw [a] at a'
        cases a'
        rw [dpa_fun ds _ _ c ce w w']
      | lst a' w' => rw [a] at a'; cases a'
      | dct a' w' => cases ce
      | exc x a' => cases ce
      | opq a' => cases ce
      | scr a' => cases ce
  | .dict kvs, e, _, c, _, _, _ => by cases c
theorem dpa_fun {K : PySem.W.Frag} {F : Hp} : ∀ (ds es : List D) (vs : List V), PyData.canLayAll0 ds = true → PyData.canLayAll0 es = true → DpAll K F vs ds → DpAll K F vs es → ds = es
  | [], es, _, _, _, h, h' => by cases h; cases h'; rfl
  | d :: ds, es, _, c, ce, h, h' => by
    cases h with
    | cons h t =>
      cases h' with
      | @cons _ _ e es h' t' =>
        have c : (d.canLay0 && PyData.canLayAll0 ds) = true := c
        have ce : (e.canLay0 && PyData.canLayAll0 es) = true := ce
        rw [Bool.and_eq_true] at c ce
        rw [dp_fun d e _ c.1 ce.1 h h', dpa_fun ds es _ c.2 ce.2 t t']
end
theorem self_subs : ∀ d : D, d ∈ subs d
  | .list ds => by unfold subs; exact List.mem_cons_self
  | .tuple ds => by unfold subs; exact List.mem_cons_self
  | .none => by unfold subs; exact List.mem_cons_self
  | .bool _ => by unfold subs; exact List.mem_cons_self
  | .int _ => by unfold subs; exact List.mem_cons_self
  | .str _ => by unfold subs; exact List.mem_cons_self
  | .dict _ => by unfold subs; exact List.mem_cons_self
open Classical in
/-- d's own part of F -/
noncomputable def part (K : PySem.W.Frag) (F : Hp) (d : D) : Hp := fun b => if ∃ x, x ∈ subs d ∧ x.canLay0 = true ∧ Dp K F (.ref b) x then F b else none
theorem part_some {K : PySem.W.Frag} {F : Hp} {d : D} {b : Addr} {o : HO} (h : part K F d b = some o) : F b = some o ∧ ∃ x, x ∈ subs d ∧ x.canLay0 = true ∧ Dp K F (.ref b) x := by
  unfold part at h
  split at h
  · rename_i z; exact ⟨h, z⟩
  · cases h
theorem part_of {K : PySem.W.Frag} {F : Hp} {d x : D} {b : Addr} (h : x ∈ subs d) (c : x.canLay0 = true) (w : Dp K F (.ref b) x) : part K F d b = F b := by
  unfold part
  rw [if_pos ⟨x, h, c, w⟩]
mutual
theorem dp_part {K : PySem.W.Frag} {F : Hp} {d0 : D} : ∀ (d : D) (v : V), d.canLay0 = true → (∀ x ∈ subs d, x ∈ subs d0) → Dp K F v d → Dp K (part K F d0) v d
  | .none, _, _, _, h => by cases h; exact .non
  | .bool b, _, _, _, h => by cases h; exact .bl b
  | .int i, _, _, _, h => by cases h; exact .int i
  | .str x, _, _, _, h => by cases h; exact .str x
  | .list ds, _, c, m, h => by
    have h0 := h
    cases h with
    | lst a w => exact .lst (by rw [part_of (m _ (self_subs _)) c h0]; exact a) (dpa_part ds _ c (fun x hx => m x (by unfold subs; exact List.mem_cons_of_mem _ hx)) w)
  | .tuple ds, _, c, m, h => by
    have h0 := h
    cases h with
    | tup a w => exact .tup (by rw [part_of (m _ (self_subs _)) c h0]; exact a) (dpa_part ds _ c (fun x hx => m x (by unfold subs; exact List.mem_cons_of_mem _ hx)) w)
  | .dict kvs, _, c, _, _ => by cases c
theorem dpa_part {K : PySem.W.Frag} {F : Hp} {d0 : D} : ∀ (ds : List D) (vs : List V), PyData.canLayAll0 ds = true → (∀ x ∈ subsL ds, x ∈ subs d0) → DpAll K F vs ds → DpAll K (part K F d0) vs ds
  | [], _, _, _, h => by cases h; exact .nil
  | d :: ds, _, c, m, h => by
    have c : (d.canLay0 && PyData.canLayAll0 ds) = true := c
    rw [Bool.and_eq_true] at c
    cases h with
    | cons h t => exact .cons (dp_part d _ c.1 (fun x hx => m x (by unfold subsL; exact List.mem_append_left _ hx)) h) (dpa_part ds _ c.2 (fun x hx => m x (by unfold subsL; exact List.mem_append_right _ hx)) t)
end
open Classical in
/-- what is left of F at H' -/
noncomputable def left (F H' : Hp) : Hp := fun b => if H' b = F b then F b else none
theorem left_some {F H' : Hp} {b : Addr} {o : HO} (h : left F H' b = some o) : F b = some o ∧ H' b = some o := by
  unfold left at h
  split at h
  · rename_i z; exact ⟨h, z.trans h⟩
  · cases h
theorem left_of {F H' : Hp} {b : Addr} {o : HO} (h : F b = some o) (h' : H' b = some o) : left F H' b = some o := by
  unfold left
  rw [if_pos (h'.trans h.symm)]
  exact h
mutual
theorem dp_left {K : PySem.W.Frag} {F H H' : Hp} {d0 : D} (fh : Same F H) (n : Near (part K F d0) H') (p : Past (part K F d0) H H') : ∀ (d : D) (v : V), d.canLay0 = true → Apart d0 d → Dp K F v d → Dp K (left F H') v d
  | .none, _, _, _, h => by cases h; exact .non
  | .bool b, _, _, _, h => by cases h; exact .bl b
  | .int i, _, _, _, h => by cases h; exact .int i
  | .str x, _, _, _, h => by cases h; exact .str x
  | .list ds, _, c, m, h => by
    have h0 := h
    cases h with
    | @lst a xs _ e w =>
      refine .lst (left_of e ?_) (dpa_left fh n p ds _ c (fun x f h1 h2 => m x f h1 (by unfold subs; exact List.mem_cons_of_mem _ h2)) w)
      cases q : part K F d0 a with
      | none => exact p a _ (fh _ _ e) fun ys z => by rw [q] at z; cases z
      | some o =>
        obtain ⟨q1, x, q2, q3, q4⟩ := part_some q
        rw [e] at q1
        cases q1
        have ex := dp_fun _ _ _ c q3 h0 q4
        subst ex
        rcases n a _ q with z | ⟨_, z⟩
        · exact z
        · cases ds with
          | nil => cases w; exact z
          | cons y ys => exact (m (.list (y :: ys)) trivial q2 (self_subs _)).elim
  | .tuple ds, _, c, m, h => by
    cases h with
    | @tup a xs _ e w =>
      refine .tup (left_of e ?_) (dpa_left fh n p ds _ c (fun x f h1 h2 => m x f h1 (by unfold subs; exact List.mem_cons_of_mem _ h2)) w)
      refine p a _ (fh _ _ e) fun ys z => ?_
      have := (part_some z).1
      rw [e] at this
      cases this
  | .dict kvs, _, c, _, _ => by cases c
theorem dpa_left {K : PySem.W.Frag} {F H H' : Hp} {d0 : D} (fh : Same F H) (n : Near (part K F d0) H') (p : Past (part K F d0) H H') : ∀ (ds : List D) (vs : List V), PyData.canLayAll0 ds = true → (∀ x, full x → x ∈ subs d0 → x ∈ subsL ds → False) → DpAll K F vs ds → DpAll K (left F H') vs ds
  | [], _, _, _, h => by cases h; exact .nil
  | d :: ds, _, c, m, h => by
    have c : (d.canLay0 && PyData.canLayAll0 ds) = true := c
    rw [Bool.and_eq_true] at c
    cases h with
    | cons h t => exact .cons (dp_left fh n p d _ c.1 (fun x f h1 h2 => m x f h1 (by unfold subsL; exact List.mem_append_left _ h2)) h) (dpa_left fh n p ds _ c.2 (fun x f h1 h2 => m x f h1 (by unfold subsL; exact List.mem_append_right _ h2)) t)
end
theorem apart_all {d : D} : ∀ {ds : List D}, (∀ e ∈ ds, Apart d e) → ∀ x, full x → x ∈ subs d → x ∈ subsL ds → False
  | [], _, x, _, _, h => by unfold subsL at h; cases h
  | e :: ds, a, x, f, h1, h2 => by
    unfold subsL at h2
    rcases List.mem_append.mp h2 with z | z
    · exact a e List.mem_cons_self x f h1 z
    · exact apart_all (fun e' m => a e' (List.mem_cons_of_mem _ m)) x f h1 z
theorem St1.spoil {G : Ct} {δ : DS} {σ : L2.St} {F H H' : Hp} {d0 : D} {m : Nat} {ks : List Nat} (k : St1 G δ σ F H) (bare : Bare0 G) (g : Good m ks d0 δ) (n : Near (part G.K F d0) H') (p : Past (part G.K F d0) H H') : St1 G (keepAt ks δ) σ (left F H') H' where
  len := by rw [keepAt_len]; exact k.len
  fh := fun b o e => (left_some e).2
  f0 := fun b o e => by
    have e1 := k.f0 b o e
    refine left_of e1 (p b o (k.fh _ _ e1) fun xs z => ?_)
    have z := (part_some z).1
    rw [e1] at z
    cases z
    exact bare.1 b _ e
  h0 := fun b o hm e => by
    refine p b o (k.h0 b o hm e) fun xs z => ?_
    have z := k.fh _ _ (part_some z).1
    rw [k.h0 b o hm e] at z
    cases z
    exact bare.2.1 b _ e
  fn := fun b e => k.fn b fun z => e (by
    unfold left
    rw [z]
    split <;> rfl)
  sl := fun i s e => by
    rcases keepAt_get e with rfl | ⟨hi, e⟩
    · trivial
    · obtain ⟨s', e', a⟩ := g.2.2 i hi
      rw [e] at e'
      cases e'
      have z := k.sl i s e
      cases s with
      | no => trivial
      | arg c => exact a.elim
      | fz d =>
        obtain ⟨v, z1, z2⟩ := z
        exact ⟨v, z1, dp_left k.fh n p d v a.1 a.2 z2⟩
      | own c =>
        cases c with
        | dct _ => exact a.elim
        | lst ds =>
          obtain ⟨q, o, z1, z2, z3, ⟨vs, rfl, z4⟩, z5, z6⟩ := z
          refine ⟨q, _, z1, p q _ z2 fun xs y => ?_, ?_, ⟨vs, rfl, dpa_left k.fh n p ds vs a.1 (apart_all a.2) z4⟩, z5, z6⟩
          · have y := (part_some y).1
            rw [z3] at y
            cases y
          · unfold left
            rw [z3]
            split <;> rfl
  di := fun i j s t q hij e1 e2 h1 h2 r1 r2 => by
    rcases keepAt_get e1 with rfl | ⟨_, e1⟩
    · cases h1
    · rcases keepAt_get e2 with rfl | ⟨_, e2⟩
      · cases h2
      · exact k.di i j s t q hij e1 e2 h1 h2 r1 r2
  tb := k.tb
  ma := fun i q e => by
    rw [bare.2.2 i] at e
    cases e
section
variable {X : Cx} {C : Cf} {pos p : Pos} {k n : Nat} {ps : List Str} {x y : Str}
theorem pz_spoil (n i : Nat) (ks : List Nat) {p1 : Pos} (F : CalS X.prog X.w X.K X.mg X.base k x ps (spoilSp X.K n)) (hr : Room k X.A) (hN : X.N[i]? = some y := by rfl) (hv : Vis X.env.scope y := by first | exact Or.inl rfl | exact Or.inr (Or.inl rfl) | exact Or.inr (Or.inr rfl)) (hd : (y == ("__debug__" : Str)) = false := by decide)
    (hcd : (y == ("__classdict__" : Str)) = false := by decide) (hK : C.K = X.K := by rfl) (hg : Gl X x := by rfl) (hdb : (x == ("__debug__" : Str)) = false := by decide)
    (hs : swapsWith (.Call (.Name x p) [.Name y p1] [] pos) none pos.line X.env = pure false := by rfl)
    (hp : ∀ (t : TE), PE X (.Name y p1) t → PA X [.Name y p1] (tCons t tNil) := by exact fun _ h => pa_cons h pa_nil)
    (he : starEach [.Name y p1] X.env = (false, eval (.Name y p1) X.env) :: starEach [] X.env := by rfl) (hpl : (backTo pos (starEach [] X.env)).any (·.1) = false := by rfl) :
    PS X (.Expr (.Call (.Name x p) [.Name y p1] [] pos) pos) (upz C (dSpoil n i ks)) := ps_weak (ps_expr (ps_callS F hr (hp _ (pe_var hN hv hd hcd)) hg hdb he hpl) hs) fun D σ H ⟨G, δ, F, hC, bare, k, h⟩ => by
  subst hC
  unfold dSpoil at h
  cases es : δ[i]? with
  | none => rw [es] at h; exact h.elim
  | some s =>
    rw [es] at h
    cases s with
    | fz d =>
      obtain ⟨z, h⟩ := okIf_finS h
      have z := @of_decide_eq_true _ (Classical.propDecidable _) z
      obtain ⟨v, e1, e2⟩ := k.sl i _ es
      have fh := k.fh
      refine ⟨v, e1, part G.K F d, v, d, rfl, ?_, z.1, z.2.1, fun b o e => .inl (fh _ _ (part_some e).1), fun H' n1 p1 => ?_⟩
      · rw [← hK]
        exact dp_part d v z.1 (fun x hx => hx) e2
      · exact h σ _ H' (k.spoil bare z n1 p1) same0
    | _ => exact h.elim
end
/-- what a law's outermost call may track: the script, the tables -/
def OnlyT (H : Hp) : Prop := ∀ b, H b = none ∨ (∃ o xs, H b = some (.frz o (.lst xs))) ∨ H b = some (TabX b)
/-- the promise of a law, of which only what it tells is wanted -/
def spTop (K : PySem.W.Frag) (den : List Sl → R Vl) : Sp := fun vs H Q E => ∃ (a : Addr) (ns : List Int), vs = [.ref a] ∧ OnlyT H ∧ TabF H ∧ SqL K H a (ns.map V.int) ∧ (∃ δ, den [.fz (.dict [(.none, .list (ns.map PyData.int))])] = .ok (.fz (.bool true)) δ) ∧ ∀ H', TabF H' → Q (.bl true) H'
section
variable {P : Program} {w : World} {K : PySem.W.Frag} {mg : Str → Option Value} {base : Heap}
theorem top_fin {G : Ct} {r : R Out} {as : List Sl} {δ : DS} {Q : VK} (e : noEx as (endOf r) = .ok (.fz (.bool true)) δ) (q : ∀ H', TabF H' → Q (.bl true) H') : finS G r hp0 { nx := fun _ H' => Q .non H', rt := Q } := by
  cases r with
  | bad => cases e
  | ex c s => cases e
  | ok o δ' =>
    cases o with
    | nx => cases e
    | bk => cases e
    | ct => cases e
    | rt r =>
      intro v σ' F' H' k _ wv
      cases r with
      | fz d =>
        cases e
        cases wv
        exact q H' fun P hP => k.fh _ _ (k.tabF P hP)
      | own c => cases e
      | loc i =>
        have wv : σ'[i]? = some (some v) := wv
        have e : noEx as (retV (.loc i) δ') = .ok (.fz (.bool true)) δ := e
        unfold retV at e
        simp only at e
        cases ei : δ'[i]? with
        | none => rw [ei] at e; cases e
        | some s =>
          rw [ei] at e
          have z := k.sl i s ei
          cases s with
          | no => cases e
          | arg c => cases e
          | own c => cases e
          | fz d =>
            cases e
            obtain ⟨u, q1, q2⟩ := z
            rw [wv] at q1
            cases q1
            cases q2
            exact q H' fun P hP => k.fh _ _ (k.tabF P hP)
theorem fnq_z {x qual : Str} {st : Stmt} {f : Addr} {fd : FuncData} {N : List Str} {k : Nat} {sd : Ds} (Fu : Fun K x qual st f fd) (S : FnScope N ["script"] (defScope st))
    (hb : ∀ (cdv : Value) (B : Around) (above : List Env) (t : Shared) (H : Hp) (E : XK), B.guards = some [] → Room k (B.deeper (envOfC qual (defScope st) t.heap.objs.size f cdv)) → PSs (cxOf CX0 P w K mg base N qual (defScope st) f cdv B above t H E).nox (defBody st) (upz (noxC K) sd)) :
    FnQ P w K mg base (k + 1) f fd ["script"] (spTop K fun as => noEx as (runDef 1 N.length sd as)) := by
  refine fnq_of Fu S (fun vs H Q E h => by obtain ⟨a, ns, rfl, _⟩ := h; rfl) fun cdv B above t H vs Q E hg hr h => ⟨_, hb cdv B above t H E hg hr, ?_⟩
  obtain ⟨a, ns, rfl, only, hT, hS, ⟨δ, e⟩, q⟩ := h
  have wa : ArgsOk K H H [V.ref a] [Sl.fz (.dict [(.none, .list (ns.map PyData.int))])] := by
    refine ⟨rfl, fun i s ei => ?_, fun i j c d p hij e1 e2 _ _ => ?_, hT⟩
    · cases i with
      | zero => cases ei; exact ⟨_, rfl, .scr hS⟩
      | succ i => simp at ei
    · cases i with
      | zero => cases e1
      | succ i => simp at e1
  refine ⟨⟨noxC K, H, H, argM [Sl.fz (.dict [(.none, .list (ns.map PyData.int))])] [V.ref a]⟩, _, H, rfl, ⟨fun b xs z => ?_, fun b xs z => ?_, fun i => ?_⟩, ?_, top_fin e q⟩
  · have z : H b = some (.lst xs) := z
    rcases only b with n | ⟨o, ys, n⟩ | n <;> rw [n] at z <;> cases z
  · have z : H b = some (.lst xs) := z
    rcases only b with n | ⟨o, ys, n⟩ | n <;> rw [n] at z <;> cases z
  · cases h : argM [Sl.fz (.dict [(.none, .list (ns.map PyData.int))])] [V.ref a] i with
    | none => exact h
    | some p =>
      obtain ⟨c, h1, _⟩ := argM_some h
      cases i with
      | zero => cases h1
      | succ i => simp at h1
  · unfold L2.start
    exact begin_ok (C := noxC K) (Same.refl H) wa
end
end DL

set_option Elab.async false
set_option linter.all false
set_option maxRecDepth 100000
set_option autoImplicit false
/-! a law's end, where its defs have tables of code objects -/
namespace DL
open PySem PySem.Spec PyProof.Rows L2
def noRows : Obj := { cls := .none, data := .fields #[] }
/-- the defs' tables as they stand when the law is called -/
structure Bare (K : PySem.W.Frag) (h : Heap) (cs : List (Addr × Addr)) : Prop where
  bare : ∀ p ∈ cs, h.get? p.2 = some noRows
  away : ∀ p ∈ cs, K.lookup p.2 = none
  code : ∀ p ∈ cs, PySem.W.CodeHd h p.1 p.2
abbrev Kept (cs : List (Addr × Addr)) (H : Hp) : Prop := ∀ p ∈ cs, H p.2 = some (TabX p.2)
section
variable {P : Program} {w : World} {K : PySem.W.Frag} {mg mb : Str → Option Value} {k : Nat} {fa a : Addr} {fd : FuncData} {x : Str} {sp : Sp} {t : Shared} {vs : List Value} {ns : List Int} {cs : List (Addr × Addr)}
/-- no object of another kind is hidden -/
theorem bare_not {h : Heap} (B : Bare K h cs) {b : Addr} {o : Obj} (z : h.get? b = some o) (d : o.data ≠ .fields #[]) : b ∉ cs.map (·.2) := fun m => by
  obtain ⟨p, hp, rfl⟩ := List.mem_map.mp m
  rw [B.bare p hp] at z
  cases z
  exact d rfl
theorem top_tab (KX : K.In t.heap) (g1 : t.heap.Ns mainGlobals mg) (g2 : t.heap.Ns builtinsNs mb) (g3 : ∀ y : Str, y ≠ "__name__" → mb y = bootBuiltins y) (g4 : t.heap.NoLimit) (g5 : t.gens = #[]) (B : Bare K t.heap cs)
    (g6 : ∃ (bm : Addr) (ob : Obj), mg "__builtins__" = some (.ref bm) ∧ bm ≠ builtinsNs ∧ t.heap.get? bm = some ob ∧ ob.cls = .type "module" ∧ ob.dict = some builtinsNs ∧ ob.data = .plain)
    (la : t.heap.get? a = some { cls := .type "list", data := .seq vs.toArray }) (hr : Room k callerA) (F : ∀ base : Heap, K.In base → base.Ns mainGlobals mg → (∀ p ∈ cs, GxR.TabB base mg p.1 p.2) → FnQ P w K mg base k fa fd [x] sp)
    (bd : ∀ (s : Shared) (u : Value), BindsTo s fd ⟨[u], []⟩ [(x, u)]) {H : Hp} (only : OnlyT H) (kept : Kept cs H) (one : ∀ b, H b ≠ none → b = a ∨ b ∈ cs.map (·.2)) (ok : HOk P w H t.heap) (out : H a ≠ none → K.lookup a = none)
    (hs : sp [.ref a] H (fun v H' => v = .bl true ∧ Kept cs H') fun _ _ _ => False) : codeAny (model P w) callerA (.call (.ref fa) ⟨[.ref a], []⟩) (Tells t) t := by
  have stay : ∀ {b : Addr} {o : Obj}, t.heap.get? b = some o → H b = none → (hidT t.heap H).get? b = some o := fun z n => hidT_get z n
  have clear : ∀ {b : Addr} {o : Obj}, t.heap.get? b = some o → o.data ≠ .fields #[] → o.data ≠ .seq vs.toArray → H b = none := fun {b o} z d1 d2 => by
    rcases hc : H b with _ | u
    · rfl
    · rcases one b (by rw [hc]; exact fun z => nomatch z) with rfl | m
      · rw [la] at z
        cases z
        exact absurd rfl d2
      · exact absurd m (bare_not B z d1)
  have names : ∀ {b : Addr} {m : Str → Option Value}, t.heap.Ns b m → (hidT t.heap H).Ns b m := fun {b m} ⟨o, es, ep, z, d, r⟩ => ⟨o, es, ep, stay z (clear z (by rw [d]; exact fun z => nomatch z) (by rw [d]; exact fun z => nomatch z)), d, r⟩
  have kin : K.In (hidT t.heap H) := fun b o z => by
    refine stay (KX b o z) ?_
    rcases hc : H b with _ | u
    · rfl
    · rcases one b (by rw [hc]; exact fun z => nomatch z) with rfl | m
      · rw [out (by rw [hc]; exact fun z => nomatch z)] at z
        cases z
      · obtain ⟨p, hp, rfl⟩ := List.mem_map.mp m
        rw [B.away p hp] at z
        cases z
  have md : Mod K mg (hidT t.heap H) := by
    obtain ⟨mc, h1, h2⟩ := g4
    exact ⟨kin, names g1, ⟨mb, names g2, g3⟩, ⟨mc, names h1, h2⟩⟩
  have tb : ∀ p ∈ cs, GxR.TabB (hidT t.heap H) mg p.1 p.2 := fun p hp => by
    have hp2 := B.bare p hp
    refine ⟨?_, ?_, fun e => ?_⟩
    · obtain ⟨o, us, c1, c2, c3, c4, c5, c6, c7, z, d1, d2, d3, rest⟩ := B.code p hp
      refine ⟨o, us, c1, c2, c3, c4, c5, c6, c7, stay z (clear z ?_ ?_), d1, d2, d3, rest⟩
      · rw [d2]
        intro e
        cases e
        cases d3
      · rw [d2]
        exact fun e => nomatch e
    · obtain ⟨bm, ob, q1, q2, q3, q4, q5, q6⟩ := g6
      refine ⟨bm, ob, q1, q2, fun e => ?_, fun e => ?_, stay q3 (clear q3 (by rw [q6]; exact fun e => nomatch e) (by rw [q6]; exact fun e => nomatch e)), q4, q5, q6⟩
      · obtain ⟨o, es, ep, z, d, _⟩ := g1
        rw [e, z] at q3
        cases q3
        rw [d] at q6
        cases q6
      · rw [e, hp2] at q3
        cases q3
        cases q6
    · obtain ⟨o, es, ep, z, d, _⟩ := g1
      rw [e, hp2] at z
      cases z
      cases d
  have e0 : Env0 P w K mg (hidT t.heap H) callerA [] t H := by
    refine ⟨rfl, md, fun b o z => of_hidT z, Nat.le_of_eq (hidT_size _ _), trivial, fun b hb => ?_, ok, .of_eq g5⟩
    exact nomatch (show b ∈ ([] : List Addr) from hb)
  have run := (F _ kin (names g1) tb).go callerA [] t H ⟨[.ref a], []⟩ [.ref a] [.ref a] _ _ rfl hr e0 (bd t (.ref a)) (.cons rfl .nil) hs
  refine codeAny_mono run fun r t' hq => ?_
  rcases r with e | fl
  · exact False.elim hq
  · rcases fl with _ | _ | _ | u
    · exact False.elim hq
    · exact False.elim hq
    · exact False.elim hq
    · obtain ⟨v, H', q1, q2, un, ok', rv, q3, q4⟩ := hq
      subst q3
      have rv : u = Value.bool true := rv
      subst rv
      have row : ∀ p ∈ cs, ∃ ps : Array Value, t'.heap.get? p.2 = some { cls := .none, data := .fields ps } := fun p hp => by
        obtain ⟨⟨ps, z, _⟩, _⟩ := ok' p.2 _ (q4 p hp)
        exact ⟨ps, z⟩
      have others : ∀ b o, b ∉ cs.map (·.2) → t.heap.get? b = some o → t'.heap.get? b = some o := fun b o nb z => by
        rcases hc : H b with _ | y
        · exact un.keep b o z hc (fun n => nomatch (show b ∈ ([] : List Addr) from n)) (by simp)
        · rcases only b with n | ⟨ob, xs, n⟩ | n
          · rw [hc] at n
            cases n
          · obtain ⟨z1, _⟩ := ok b _ n
            obtain ⟨z2, _⟩ := ok' b _ (un.frzs b ob _ n)
            rw [z] at z1
            cases z1
            exact z2
          · rcases one b (by rw [n]; exact fun z => nomatch z) with rfl | m
            · obtain ⟨⟨ps, z1, _⟩, _⟩ := ok b _ n
              rw [la] at z1
              cases z1
            · exact absurd m nb
      refine ⟨rfl, ⟨fun b o z => ?_, fun b o z => ?_⟩, q1, q2⟩
      · by_cases hb : b ∈ cs.map (·.2)
        · obtain ⟨p, hp, rfl⟩ := List.mem_map.mp hb
          obtain ⟨ps, hm⟩ := row p hp
          rw [B.bare p hp] at z
          cases z
          refine .inr (.inl ⟨((B.code p hp).tab (B.bare p hp)).isCodeTable, rfl, #[], ps, rfl, ?_⟩)
          rw [Array.empty_append]
          exact hm
        · exact .inl (others b o hb z)
      · by_cases hb : b ∈ cs.map (·.2)
        · obtain ⟨p, hp, rfl⟩ := List.mem_map.mp hb
          obtain ⟨ps, hm⟩ := row p hp
          exact ⟨_, hm⟩
        · exact ⟨o, others b o hb z⟩
open Classical in
theorem top_call_t (KX : K.In t.heap) (g1 : t.heap.Ns mainGlobals mg) (g2 : t.heap.Ns builtinsNs mb) (g3 : ∀ y : Str, y ≠ "__name__" → mb y = bootBuiltins y) (g4 : t.heap.NoLimit) (g5 : t.gens = #[]) (B : Bare K t.heap cs)
    (g6 : ∃ (bm : Addr) (ob : Obj), mg "__builtins__" = some (.ref bm) ∧ bm ≠ builtinsNs ∧ t.heap.get? bm = some ob ∧ ob.cls = .type "module" ∧ ob.dict = some builtinsNs ∧ ob.data = .plain)
    (la : t.heap.get? a = some { cls := .type "list", data := .seq vs.toArray }) (iv : IntsAre vs ns) (hl : ns.length ≤ sizeLine) (hr : Room k callerA) (F : ∀ base : Heap, K.In base → base.Ns mainGlobals mg → (∀ p ∈ cs, GxR.TabB base mg p.1 p.2) → FnQ P w K mg base k fa fd [x] sp)
    (bd : ∀ (s : Shared) (u : Value), BindsTo s fd ⟨[u], []⟩ [(x, u)]) (hs : ∀ H : Hp, OnlyT H → Kept cs H → SqL K H a (ns.map V.int) → sp [.ref a] H (fun v H' => v = .bl true ∧ Kept cs H') fun _ _ _ => False) :
    codeAny (model P w) callerA (.call (.ref fa) ⟨[.ref a], []⟩) (Tells t) t := by
  have rv := vals_ints iv
  have lv := iv.length
  have an : a ∉ cs.map (·.2) := bare_not B la (fun z => nomatch z)
  let H1 : Hp := fun b => if b ∈ cs.map (·.2) then some (TabX b) else none
  have in1 : ∀ b, b ∈ cs.map (·.2) → H1 b = some (TabX b) := fun b hb => if_pos hb
  have out1 : ∀ b, b ∉ cs.map (·.2) → H1 b = none := fun b hb => if_neg hb
  have fine : ∀ (H : Hp) (b : Addr), b ∈ cs.map (·.2) → ObjOk P w H t.heap b (TabX b) := fun H b hb => by
    obtain ⟨p, hp, rfl⟩ := List.mem_map.mp hb
    exact ⟨⟨#[], B.bare p hp, trivial⟩, ⟨_, B.bare p hp⟩, fun h1 h2 ⟨ps, z, y⟩ kp => ⟨ps, kp _ z, y⟩⟩
  rcases hk : K.lookup a with _ | o
  · let H : Hp := fun b => if b = a then some (.frz { cls := .type "list", data := .seq vs.toArray } (.lst (ns.map V.int))) else H1 b
    have at_a : H a = some (.frz { cls := .type "list", data := .seq vs.toArray } (.lst (ns.map V.int))) := if_pos rfl
    have not_a : ∀ b, b ≠ a → H b = H1 b := fun b hb => if_neg hb
    have kept : Kept cs H := fun p hp => by
      have m : p.2 ∈ cs.map (·.2) := List.mem_map.mpr ⟨p, hp, rfl⟩
      rw [not_a _ fun e => an (e ▸ m)]
      exact in1 _ m
    have only : OnlyT H := fun b => by
      by_cases hb : b = a
      · exact .inr (.inl ⟨_, _, by rw [hb]; exact at_a⟩)
      · rw [not_a b hb]
        by_cases hm : b ∈ cs.map (·.2)
        · exact .inr (.inr (in1 b hm))
        · exact .inl (out1 b hm)
    refine top_tab KX g1 g2 g3 g4 g5 B g6 la hr F bd only kept (fun b n => ?_) (fun b u z => ?_) (fun _ => hk) (hs H only kept (.inl (.inr ⟨_, at_a⟩)))
    · by_cases hb : b = a
      · exact .inl hb
      · by_cases hm : b ∈ cs.map (·.2)
        · exact .inr hm
        · exact absurd ((not_a b hb).trans (out1 b hm)) n
    · by_cases hb : b = a
      · subst hb
        rw [at_a] at z
        cases z
        exact ⟨la, by rw [List.length_map]; exact hl, vs, _, rv, la⟩
      · rw [not_a b hb] at z
        by_cases hm : b ∈ cs.map (·.2)
        · rw [in1 b hm] at z
          cases z
          exact fine _ b hm
        · rw [out1 b hm] at z
          cases z
  · have z := KX a o hk
    rw [la] at z
    cases z
    have kept : Kept cs H1 := fun p hp => in1 _ (List.mem_map.mpr ⟨p, hp, rfl⟩)
    have only : OnlyT H1 := fun b => by
      by_cases hm : b ∈ cs.map (·.2)
      · exact .inr (.inr (in1 b hm))
      · exact .inl (out1 b hm)
    refine top_tab KX g1 g2 g3 g4 g5 B g6 la hr F bd only kept (fun b n => ?_) (fun b u z => ?_) (fun n => absurd (out1 a an) n) (hs _ only kept ?_)
    · by_cases hm : b ∈ cs.map (·.2)
      · exact .inr hm
      · exact absurd (out1 b hm) n
    · by_cases hm : b ∈ cs.map (·.2)
      · rw [in1 b hm] at z
        cases z
        exact fine _ b hm
      · rw [out1 b hm] at z
        cases z
    · exact .inr ⟨_, vs.toArray, _, hk, rfl, rfl, rfl, by rw [List.size_toArray, lv]; exact hl, by simpa using rv⟩
end
/-- what is known at the top's end -/
def TopT (l : PySem.W.OpenLaw) (w : World) (K : PySem.W.Frag) (k n : Nat) (x : Str) (mg : Str → Option Value) (fa : Addr) (h : Heap) : Prop :=
  ∃ (fd : FuncData) (cs : List (Addr × Addr)) (sp : Sp), Bare K h cs ∧ (∀ (s : Shared) (u : Value), BindsTo s fd ⟨[u], []⟩ [(x, u)]) ∧
    (∀ (H : Hp) (a : Addr) (ns : List Int), ns.length ≤ n → OnlyT H → Kept cs H → SqL K H a (ns.map V.int) → sp [.ref a] H (fun v H' => v = .bl true ∧ Kept cs H') fun _ _ _ => False) ∧
    ∀ base : Heap, K.In base → base.Ns mainGlobals mg → (∀ p ∈ cs, GxR.TabB base mg p.1 p.2) → FnQ l.prog w K mg base k fa fd [x] sp
theorem walk_t {l : PySem.W.OpenLaw} {n k : Nat} {q : Program} {loose : List Str} {XP : (Str → Option Value) → Heap → Prop} {YP : World → Heap → Prop} {d : DefRec} {x : Str}
    (hn : l.most = some n) (h2 : n ≤ sizeLine) (hd : d.params.defaults = []) (hr : Room k callerA)
    (F : ∀ (w : World) (mg : Str → Option Value) (fa : Addr) (h : Heap), YP w h → h.Ns mainGlobals mg → mg d.name = some (.ref fa) → ∃ K : PySem.W.Frag, K.In h ∧ TopT l w K k n x mg fa h) :
    PySem.W.WalkO q loose XP YP l.row.toRowW d [] (fun f vs => PySem.call f vs) := by
  refine Att.attach_call hn hd fun w s0 t mg mb fa o pm cd doc a vs ns G Y ho hf hc hm la iv len hg => ?_
  obtain ⟨K, KX, fd, cs, sp, B, bd, hs, Fn⟩ := F w mg fa _ Y G.T.g hm
  exact top_call_t KX G.T.g G.T.b G.T.builtins G.T.nolimit hg B G.T.bmain la iv (Nat.le_trans len h2) hr Fn bd fun H only kp z => hs H a ns len only kp z
theorem law_spT [Tabs] {K : PySem.W.Frag} {H : Hp} {a : Addr} {ns : List Int} {den : List Sl → R Vl} {E : XK} {Q : VK} (hS : SqL K H a (ns.map V.int)) (hT : TabF H) (h : ∃ δ, den [.fz (.dict [(.none, .list (ns.map PyData.int))])] = .ok (.fz (.bool true)) δ) (hQ : ∀ H', TabF H' → Q (.bl true) H') : dsp K den [.ref a] H Q E := by
  obtain ⟨δ, e⟩ := h
  refine ⟨H, [.fz (.dict [(.none, .list (ns.map PyData.int))])], Same.refl H, ⟨rfl, fun i s ei => ?_, fun i j c d p hij e1 e2 _ _ => ?_, hT⟩, ?_⟩
  · cases i with
    | zero => cases ei; exact ⟨_, rfl, .scr hS⟩
    | succ i => simp at ei
  · cases i with
    | zero => cases e1
    | succ i => simp at e1
  · rw [e]
    intro v F' H' z r
    cases r
    exact hQ H' fun P hP => z.fh _ _ (z.ff _ _ (hT P hP))
end DL

set_option Elab.async false
set_option linter.all false
set_option maxRecDepth 100000
set_option autoImplicit false
/-! defs with generator expressions, and what stands of the defs behind the top, by names -/
namespace DL
open PySem PySem.Spec PyProof.Rows L2
variable [Tabs]
section
variable {P : Program} {w : World} {K : PySem.W.Frag} {mg : Str → Option Value} {base : Heap} {x qual : Str} {st : Stmt} {f : Addr} {fd : FuncData} {N ps : List Str} {k : Nat} {sp : Sp} {sd : Ds} {c : Addr}
theorem ok_c (F : Fun K x qual st f fd) (hc : fd.code = .ref c) (S : FnScope N ps (defScope st)) (len : ∀ vs H Q E, sp vs H Q E → vs.length = ps.length)
    (hb : ∀ (A : Around) (above : List Env) (t : Shared) (H : Hp) (vs : List V) (Q : VK) (E : XK), Room k (A.deeper (envOfC qual (defScope st) t.heap.objs.size f (.ref c))) → sp vs H Q E →
      ∃ r, PSs (cxOf CX0 P w K mg base N qual (defScope st) f (.ref c) A above t H E).nox (defBody st) r ∧ r { nx := fun _ H' => Q .non H', rt := Q } (start N vs) H) : FnOk P w K mg base CX0 (k + 1) f fd ps sp := by
  obtain ⟨oc, od, kV, doc, pm, an, cdv, ct, osl, rfl, lk, hcd⟩ := F.ex
  have e : cdv = .ref c := hc
  subst e
  refine fn_of lk hcd S len fun A above t H vs Q E hr hs => ?_
  obtain ⟨r, h, q⟩ := hb A above t H vs Q E hr hs
  exact ⟨r, h.nox, q⟩
theorem fn_nc (F : Fun K x qual st f fd) (hc : fd.code = .ref c) (S : FnScope N ps (defScope st))
    (hb : ∀ (A : Around) (above : List Env) (t : Shared) (H : Hp) (E : XK), Room k (A.deeper (envOfC qual (defScope st) t.heap.objs.size f (.ref c))) → PSs (cxOf CX0 P w K mg base N qual (defScope st) f (.ref c) A above t H E).nox (defBody st) (ups (noxC K) sd)) :
    FnOk P w K mg base CX0 (k + 1) f fd ps (dsp K fun as => noEx as (runDef ps.length N.length sd as)) := by
  have conv : ∀ vs H Q E, dsp K (fun as => noEx as (runDef ps.length N.length sd as)) vs H Q E → dsp K (runDef ps.length N.length sd) vs H Q E0 := fun vs H Q E h => by
    obtain ⟨F, as, fh, wa, h⟩ := dsp_trim h
    have h : dspM K F as vs H Q E (noX (runDef ps.length N.length sd as)) := h
    have nb : noX (runDef ps.length N.length sd as) ≠ .bad := fun z => by rw [z] at h; exact h
    obtain ⟨e, ne⟩ := noX_ok nb
    refine ⟨F, as, fh, wa, ?_⟩
    rw [e]
    cases ed : noX (runDef ps.length N.length sd as) with
    | ok r δ => rw [ed] at h; exact h
    | ex c δ => exact absurd ed (ne c δ)
    | bad => exact absurd ed nb
  refine ok_c F hc S (fun vs H Q E h => dsp_len (conv vs H Q E h)) fun A above t H vs Q E hr h => ⟨_, hb A above t H E hr, ?_⟩
  exact ends_of (C := noxC K) (fun _ _ _ z => z) rfl (conv vs H Q E h)
/-- what stands of a def at its name, its code object known -/
structure DfnC (K : PySem.W.Frag) (mg : Str → Option Value) (x : Str) (st : Stmt) (ps : List Str) (c : Addr) : Prop where
  ex : ∃ (f : Addr) (fd : FuncData), Fun K x x st f fd ∧ fd.code = .ref c ∧ mg x = some (.ref f) ∧ PySem.W.keepIn K (.ref f) = true ∧ Binds K fd ps []
theorem cal_ofC {den : List Sl → R Vl} (D : DfnC K mg x st ps c) (h : ∀ (f : Addr) (fd : FuncData), Fun K x x st f fd → fd.code = .ref c → FnOk P w K mg base CX0 k f fd ps (dsp K den)) : Cal P w K mg base k x ps den := by
  obtain ⟨f, fd, F, e, a, b, c⟩ := D.ex
  exact ⟨f, fd, h f fd F e, a, b, c⟩
end
/-- the generator's own names are slots of the comprehension's -/
theorem hix_by {N ts : List Str} {vs : List Nat} (h : ((List.range N.length).all fun i => match N[i]? with | some x => !(decide (x = (".0" : Str)) || decide (x ∈ ts)) || decide (i ∈ vs) | none => true) = true) : ∀ (i : Nat) (x : Str), N[i]? = some x → x = (".0" : Str) ∨ x ∈ ts → i ∈ vs := fun i x e m => by
  have z := List.all_eq_true.mp h i (List.mem_range.mpr (List.getElem?_eq_some_iff.mp e).1)
  rw [e] at z
  have m' : (decide (x = (".0" : Str)) || decide (x ∈ ts)) = true := by rcases m with m | m <;> simp [m]
  simp only [m', Bool.not_true, Bool.false_or, decide_eq_true_eq] at z
  exact z
/-! ### behind the top -/
section
variable {K : PySem.W.Frag} {mg : Str → Option Value} {h : Heap} {fa : List He.Fa} {fn : List He.DefD} {tf : List He.Defn} {ex : PySem.W.Frag → Bool} {w : World}
theorem fun_at (c : He.SaysD fa fn K) (i : Nat) (x : Str) {st : Stmt} (hi : fn[i]? = some ⟨(x, none), x, x, defArgs st, defBody st, defScope st, [], []⟩) : ∃ fd, Fun K x x st (He.fAd K (x, none)) fd := by
  obtain ⟨fd, FT⟩ := c.def_ i hi
  obtain ⟨oc, od, dV, kV, doc, pm, an, cdv, ct, osl, e, lk, hcd, d1, d2⟩ := FT.ex
  rcases d1 with ⟨_, rfl⟩ | ⟨z, _⟩
  · exact ⟨fd, ⟨⟨oc, od, kV, doc, pm, an, cdv, ct, osl, e, lk, hcd⟩, FT.kp⟩⟩
  · exact absurd rfl z
theorem dfn_at (X : K.In h) (G : h.Ns mainGlobals mg) (c : He.SaysD fa fn K) (i j : Nat) (x : Str) {st : Stmt} {ps : List Str} (hi : fn[i]? = some ⟨(x, none), x, x, defArgs st, defBody st, defScope st, [], []⟩) (hj : fa[j]? = some (.glo x))
    (hb : ∀ (kV doc pm : Value) (an : Option Addr) (cdv ct : Value) (us : List Value), us.length = ps.length → bindArgs (PySem.W.fnOf x x (defArgs st) (defBody st) (defScope st) .none kV doc pm an cdv ct) ⟨us, []⟩ = pure (ps.zip us)) : Dfn K mg x st ps := by
  obtain ⟨fd, F⟩ := fun_at c i x hi
  have g := He.glo_ok X G (c.fact j hj)
  exact ⟨He.ga K x, fd, F, g, F.kp, F.binds hb⟩
theorem dfnC_at (X : K.In h) (G : h.Ns mainGlobals mg) (c : He.SaysD fa fn K) (i j : Nat) (x : Str) {st : Stmt} {ps : List Str} (hi : fn[i]? = some ⟨(x, none), x, x, defArgs st, defBody st, defScope st, [], []⟩) (hj : fa[j]? = some (.glo x))
    (hb : ∀ (kV doc pm : Value) (an : Option Addr) (cdv ct : Value) (us : List Value), us.length = ps.length → bindArgs (PySem.W.fnOf x x (defArgs st) (defBody st) (defScope st) .none kV doc pm an cdv ct) ⟨us, []⟩ = pure (ps.zip us)) : DfnC K mg x st ps (He.cT K (x, none)).1 := by
  obtain ⟨fd, F⟩ := fun_at c i x hi
  have g := He.glo_ok X G (c.fact j hj)
  have F0 := F
  obtain ⟨oc, od, kV, doc, pm, an, cdv, ct, osl, e, lk, hcd⟩ := F.ex
  obtain ⟨cc, rfl⟩ := He.codeIn_ref hcd
  have e1 : fd.code = .ref cc := by rw [e]
  have e2 : He.codeOf K (x, none) = cc := He.codeOf_eq lk e1
  exact ⟨He.ga K x, fd, F0, by rw [e1]; exact congrArg Value.ref e2.symm, g, F.kp, F0.binds hb⟩
theorem err_at (X : K.In h) (G : h.Ns mainGlobals mg) (c : He.SaysD fa fn K) (i j : Nat) (x : Str) (hi : fa[i]? = some (.exc x)) (hj : fa[j]? = some (.glo x)) : ErrC K mg x := by
  obtain ⟨c1, c2, c3, c4⟩ := He.exc_ok (c.fact i hi)
  exact ⟨He.ga K x, He.glo_ok X G (c.fact j hj), c1, c2, c3, c4⟩
theorem bare_at (X : K.In h) (c : He.SaysX fa fn [] tf ex w h K) : Bare K h (tf.map (He.cT K)) := by
  refine ⟨fun p hp => ?_, fun p hp => ?_, fun p hp => ?_⟩
  all_goals
    obtain ⟨q, hq, rfl⟩ := List.mem_map.mp hp
  · exact c.empty q hq
  · exact c.out q hq
  · exact PySem.W.codeHd_of_K X (c.hd q hq)
end
end DL

set_option Elab.async false
set_option linter.all false
set_option maxRecDepth 100000
set_option autoImplicit false
/-! calls of defs that show something (repr): where nothing is being shown around them -/
namespace DL
open PySem PySem.Spec PyProof.Rows L2
variable [Tabs]
section
variable {X : Cx} {C : Cf} {k : Nat} {f : Addr} {fd : FuncData} {ps : List Str} {sp : Sp} {ds : List Value} {dvs : List V} {E : XK} {x : Str} {e : Expr} {pos : Pos}
theorem run_q {pins : List (Addr × Obj)} {σ : L2.St} {H : Hp} {t : Shared} {Q : VK} {us : List Value} {vs : List V} (F : FnQ X.prog X.w X.K X.mg X.base k f fd ps sp) (g : X.A.guards = some []) (hr : Room k X.A) (hb : Binds X.K fd ps ds) (hd : Vals dvs ds) (hx : Passes CX0 X E)
    (I : Inv X pins σ H t) (r : Vals vs us) (h : sp (vs ++ dvs) H Q E) : wpAny (model X.prog X.w) X.A (call (.ref f) us) (EP X pins σ Q) X.xe t := by
  have rr : Vals (vs ++ dvs) (us ++ ds) := r.append hd
  have n : (us ++ ds).length = ps.length := rr.length ▸ F.arity _ _ _ _ h
  refine wpAny_call (codeAny_mono (F.go X.A X.stack t H ⟨us, []⟩ (us ++ ds) (vs ++ dvs) Q E g hr I.env0 (hb t us I.kIn n) rr h) fun o t' q => ?_)
  rcases o with err | fl
  · exact hx pins σ H t err t' I q
  · rcases fl with _ | _ | _ | u
    · exact False.elim q
    · exact False.elim q
    · exact False.elim q
    · exact I.after q
theorem pd_callQ {es : List Expr} {p : Pos} {den : List Sl → R Vl} {al : Da} (Fn : FnQ X.prog X.w X.K X.mg X.base k f fd ps (dsp C.K den)) (g : X.A.guards = some []) (hr : Room k X.A) (hm : X.mg x = some (.ref f)) (hk : PySem.W.keepIn X.K (.ref f) = true) (hb : Binds X.K fd ps [])
    (ha : PA X (e :: es) (upA C al)) (hE : ∀ (σ : L2.St) (c : Value) (H : Hp), C.E σ c none H → False := by exact fun _ _ _ h => h) (hg : Gl X x := by rfl) (hdb : (x == ("__debug__" : Str)) = false := by decide) (he : starEach (e :: es) X.env = (false, eval e X.env) :: starEach es X.env := by rfl) (hpl : (backTo pos (starEach es X.env)).any (·.1) = false := by rfl) :
    PE X (.Call (.Name x p) (e :: es) [] pos) (up C (dCall den al)) := by
  have q : PE X (.Call (.Name x p) (e :: es) [] pos) (tCall (dsp C.K den) [] L2.E0 (upA C al)) := by
    refine ⟨fun pins t σ H Q I h => ?_⟩
    refine wpAny_Call_Name_kw (ld_glob I hg hm ?_ hdb)
    exact PySem.W.callWith_K (h₀ := X.base) I.ok.mod.kin hk (thn (ha.run pos pins t σ H _ I h) fun us t1 ⟨vs, H1, I1, r, q⟩ => ⟨I1.kIn, run_q Fn g hr hb .nil pass0 I1 r q⟩) he hpl
  exact pe_weak q (rf_call fun σ c H h => hE σ c H h)
end
section
variable {P : Program} {w : World} {K : PySem.W.Frag} {mg : Str → Option Value} {base : Heap}
structure CalQ (P : Program) (w : World) (K : PySem.W.Frag) (mg : Str → Option Value) (base : Heap) (k : Nat) (x : Str) (ps : List Str) (den : List Sl → R Vl) : Prop where
  ex : ∃ (f : Addr) (fd : FuncData), FnQ P w K mg base k f fd ps (dsp K den) ∧ mg x = some (.ref f) ∧ PySem.W.keepIn K (.ref f) = true ∧ Binds K fd ps []
theorem calQ_of {x : Str} {st : Stmt} {ps : List Str} {k : Nat} {den : List Sl → R Vl} (D : Dfn K mg x st ps) (h : ∀ (f : Addr) (fd : FuncData), Fun K x x st f fd → FnQ P w K mg base k f fd ps (dsp K den)) : CalQ P w K mg base k x ps den := by
  obtain ⟨f, fd, F, a, b, c⟩ := D.ex
  exact ⟨f, fd, h f fd F, a, b, c⟩
end
section
variable {X : Cx} {C : Cf} {k : Nat} {x : Str} {ps : List Str} {e : Expr} {pos : Pos}
theorem pd_calQ {es : List Expr} {p : Pos} {den : List Sl → R Vl} {al : Da} (F : CalQ X.prog X.w X.K X.mg X.base k x ps den) (g : X.A.guards = some []) (hr : Room k X.A) (ha : PA X (e :: es) (upA C al)) (hK : C.K = X.K := by rfl) (hE : ∀ (σ : L2.St) (c : Value) (H : Hp), C.E σ c none H → False := by exact fun _ _ _ h => h) (hg : Gl X x := by rfl) (hdb : (x == ("__debug__" : Str)) = false := by decide) (he : starEach (e :: es) X.env = (false, eval e X.env) :: starEach es X.env := by rfl) (hpl : (backTo pos (starEach es X.env)).any (·.1) = false := by rfl) :
    PE X (.Call (.Name x p) (e :: es) [] pos) (up C (dCall den al)) := by
  obtain ⟨f, fd, Fn, hm, hk, hb⟩ := F.ex
  exact pd_callQ (C := C) (by rw [hK]; exact Fn) g hr hm hk hb ha hE hg hdb he hpl
end
end DL

set_option Elab.async false
set_option linter.all false
set_option maxRecDepth 100000
set_option maxHeartbeats 2000000
set_option autoImplicit false
/-! {element for target in things}, the elements whole numbers; len of it -/
namespace DL
open PySem PySem.Spec PyProof.Rows L2
variable [Tabs]
section
variable {X : Cx}
theorem addI_ok {pins : List (Addr × Obj)} {σ : L2.St} {H : Hp} {s : Shared} {E : Value → Shared → Prop} {D : Addr} {S : Int → Bool} {n : Nat} {y : Int} {t : Tok} {Q : Value → Shared → Prop} (I : Inv X pins σ H s) (hD : H D = some (SetO X.w D S n)) (room : n + 1 < scanBound)
    (h : ∀ s', Inv X pins σ (upd H D (SetO X.w D (fun j => S j || decide (j = y)) (if S y = true then n else n + 1))) s' → Q .none s') : wpAny (model X.prog X.w) X.A (call (.builtin "set.add") [.ref D, .int y t]) Q E s := by
  refine setR_add (setO_get I hD) room fun h' sb new => ?_
  have he : ∃ u, h'.get? D = some u := by
    obtain ⟨o, _, _, _, ho, _⟩ := new
    exact ⟨o, ho⟩
  exact h _ (I.write (e := D) (t' := s.toks + 1) (by rw [hD]; trivial) (.inl rfl) (fun b u hb hu => (sb.2 b hb).trans hu) he (setO_new new))
/-- {elt for tg in iter}, the elements whole numbers: D the new set -/
def tScI (w : World) (wi : TI) (g : TG) (te : TE) (vs : List Nat) : TE := fun σ H Q => wi σ H fun J H1 => ∀ D, H1 D = none → ∃ W : Nat → Nat → Hp → Prop, (∃ m, W 0 m (upd H1 D (SetO w D (fun _ => false) 0))) ∧ ∀ i m H, W i m H →
  (J.stop i H ∧ Q (.ref D) H) ∨ (J.go i H ∧ ∃ Nx : Hp → Prop, (∀ H', Nx H' → ∃ m', m' < m ∧ W (i + 1) m' H') ∧ ∀ x H', J.yld i H x H' → g x (wipe σ vs) H' fun σ2 H2 => wipe σ2 vs = wipe σ vs ∧
    te σ2 H2 fun y H4 => ∃ (c : Int) (S : Int → Bool) (n : Nat), y = .int c ∧ H4 D = some (SetO w D S n) ∧ n + 1 < scanBound ∧ Nx (upd H4 D (SetO w D (fun j => S j || decide (j = c)) (if S c = true then n else n + 1))))
theorem pe_scI {elt tg iter : Expr} {scope : Scope} {own : List (Str × Nat)} {pos : Pos} {wi : TI} {g : TG} {te : TE} (hc : X.calm = true) (hN : X.N.Nodup) (hi : PI X tg iter wi) (ok : BlkOk X.N X.env.scope scope own)
    (hg : ∀ (s : Shared) (H : Hp) (Ca : Addr) (cl : List (Str × Addr)) (fp : List Addr), PG (X.blk s H scope (compEnvC scope cl Ca X.env) fp) tg g)
    (he : ∀ (s : Shared) (H : Hp) (Ca : Addr) (cl : List (Str × Addr)) (fp : List Addr), PE (X.blk s H scope (compEnvC scope cl Ca X.env) fp) elt te) (hs : ∀ x, foldedSetIterable iter X.env x = pure x) :
    PE X (.SetComp elt [⟨tg, iter, [], 0⟩] scope pos) (tScI X.w wi g te (own.map (·.2))) := by
  refine ⟨fun pins s σ H Q I h => ?_⟩
  rw [PpSet.eval_SetComp]
  have caught : ∀ y ∈ scope.names, y.2 = .free → ∃ c, X.env.cells.lookup y.1 = some c := fun y hy e => (ok.free y hy e).elim (fun k => I.ok.has _ (.inl k)) fun k => I.ok.has _ (.inr k)
  refine wpAny_comprehension_free (use := none) rfl hs (closure_ok caught) ok.kind (fun y hy e => by rw [ok.uniq y hy, e]) (thn (hi.run pins s σ H _ I h) fun xv t1 hx => thn hx fun itv t2 h2 => ?_)
  obtain ⟨it, fp, tn, J, H2, rfl, I2, T, b2, f2, q⟩ := h2
  refine PpSet.newSet_ok (newEnv_comp ?_)
  generalize eD : t2.heap.objs.size = D
  have nD : H2 D = none := I2.hok.fresh (Nat.le_of_eq eD)
  obtain ⟨W, ⟨m0, w0⟩, turn⟩ := q D nD
  generalize eo : ({ cls := .type "set", dict := none, data := .set #[] 0 (.fresh 0 0 (!X.w.params.followText "set-order")) } : Obj) = ob
  have fr : ob.isFreed = false := by rw [← eo]; rfl
  generalize e3 : ({ t2 with heap := t2.heap.push ob } : Shared) = t3
  have hh : t3.heap = t2.heap.push ob := by rw [← e3]
  have old : ∀ b o, t2.heap.get? b = some o → t3.heap.get? b = some o := fun b o e => by rw [hh]; exact Heap.get?_push_of_some _ e
  have new0 : SetR X.w t3.heap D (fun _ => false) 0 := by
    rw [hh, ← eD, ← eo]
    exact setR_fresh X.w
  have I3 : Inv X pins σ (upd H2 D (SetO X.w D (fun _ => false) 0)) t3 := by
    have z := I2.laid (a := D) (o := SetO X.w D (fun _ => false) 0) (t' := t2.toks) (h' := t3.heap) old (Nat.le_of_eq eD) (setO_new new0)
    rw [← e3] at z ⊢
    exact z
  have lt2 : ∀ b ∈ fp, b < t2.heap.objs.size := fun b hb => by
    obtain ⟨o, e, _⟩ := T.obj _ _ b2 b hb
    exact Heap.lt_size e
  have f3 : ∀ b ∈ fp, FpOk X pins (upd H2 D (SetO X.w D (fun _ => false) 0)) b ∧ b < t3.heap.objs.size := fun b hb => by
    have l := lt2 b hb
    have nb : b ≠ D := by rw [← eD]; exact Nat.ne_of_lt l
    exact ⟨⟨by rw [upd_ne nb]; exact (f2 b hb).1, (f2 b hb).2⟩, by rw [hh, Heap.size_push]; exact Nat.lt_succ_of_lt l⟩
  have b3 : tn 0 t3.heap := T.keep _ _ _ b2 fun b _ o e => old b o e
  have I4 := block_start I3 ok hN f3
  generalize eH : upd H2 D (SetO X.w D (fun _ => false) 0) = H3 at I3 I4 w0 f3
  have nfp : ∀ b ∈ fp, H3 b = none := fun b hb => (f3 b hb).1.1
  generalize ecl : cellsFrom (t3.heap.objs.size + 1) scope.names (cloFrom X.env.cells scope.names []) = cl at I4
  have pg := hg t3 H3 t3.heap.objs.size cl fp
  have pe := he t3 H3 t3.heap.objs.size cl fp
  show codeAny _ _ (.compStart (.SetComp elt [⟨tg, iter, [], 0⟩] scope pos) 0 (.ref it) (.ref D) (compEnvC scope cl t3.heap.objs.size X.env)) (compPost (model X.prog X.w) X.A X.xe none (EP X pins σ Q) (.ref D) t3.heap.objs.size) { t3 with heap := pushCells (t3.heap.push { cls := .type "dict", data := .dict #[] }) scope.names }
  generalize ece : compEnvC scope cl t3.heap.objs.size X.env = ce at I4 pg pe ⊢
  have cL : ce.locals = t3.heap.objs.size := by rw [← ece]; rfl
  generalize e4 : ({ t3 with heap := pushCells (t3.heap.push { cls := .type "dict", data := .dict #[] }) scope.names } : Shared) = t4 at I4 ⊢
  have b4 : tn 0 t4.heap := T.keep _ _ _ b3 fun b _ o e => by
    rw [← e4]
    exact pushCells_keeps _ _ _ _ (Heap.get?_push_of_some _ e)
  generalize eZ : X.blk t3 H3 scope ce fp = Z at I4 pg pe
  have zex : Z.ex = fp := by rw [← eZ]
  have zc : Z.calm = true := by rw [← eZ]; exact hc
  have zpn : Z.pn = [] := by rw [← eZ]
  have still : ∀ {σ' : L2.St} {H' : Hp} {s' : Shared}, Inv Z [] σ' H' s' → (∀ b ∈ fp, H' b = none) → ∀ b ∈ fp, FpOk Z [] H' b := fun {σ' H' s'} I' hn b hb => by
    have hbe : b ∈ Z.ex := by rw [zex]; exact hb
    refine ⟨hn b hb, (I'.ok.exf b hbe).1, I'.ok.exfs b hbe, .inl hbe, fun x c e => (I'.ok.exf b hbe).2 x c e, fun p hp => ?_⟩
    rw [zpn] at hp
    exact absurd hp (by simp)
  have loop : codeAny (model X.prog X.w) X.A (.compLoop (.SetComp elt [⟨tg, iter, [], 0⟩] scope pos) 0 (.ref it) (.ref D) ce) (compPost (model X.prog X.w) X.A X.xe none (EP X pins σ Q) (.ref D) t3.heap.objs.size) t4 := by
    refine PpSet.compLoopS_any (fun n s' => ∃ i H', Inv Z [] (wipe σ (own.map (·.2))) H' s' ∧ tn i s'.heap ∧ (∀ b ∈ fp, H' b = none) ∧ W i n H') ?_ m0 ⟨0, H3, I4, b4, nfp, w0⟩
    rintro n s5 ⟨i, H5, I5, b5, n5, w5⟩
    rcases turn i n H5 w5 with ⟨stop, qq⟩ | ⟨go, Nx, hNx, step⟩
    · have td := T.done Z (by rw [← eZ]) (by rw [← eZ]) (by rw [← eZ]) zc i [] s5 _ H5 (fun _ _ => False) I5 (still I5 n5) b5 stop
      rw [show Z.A = X.A from by rw [← eZ]] at td
      refine thnF td fun r s6 ⟨hr, I6⟩ => ?_
      subst hr
      have nC : H5 t3.heap.objs.size = none := by
        have z := I6.free
        rw [show Z.env.locals = t3.heap.objs.size from by rw [← eZ]; exact cL] at z
        exact z
      obtain ⟨m, hn, _⟩ := I6.loc
      rw [show Z.env.locals = t3.heap.objs.size from by rw [← eZ]; exact cL] at hn
      have I6' : Inv (X.blk t3 H3 scope ce fp) [] (wipe σ (own.map (·.2))) H5 s6 := by rw [eZ]; exact I6
      have I7 : Inv X pins σ H5 s6 := I3.call' (ch := fp) I6'.os I6'.base I6'.hok I6'.bare fun b hb => ⟨(f3 b hb).1.2.2.2.1, (f3 b hb).1.2.1, (f3 b hb).1.2.2.2.2.1, (f3 b hb).1.2.2.2.2.2⟩
      obtain ⟨g0, g1, g2, g3, g4, g5⟩ := I3.fpOk (H' := H5) (Nat.le_refl _) nC
      exact ⟨m, hn, fun h'' sb => ⟨.ref D, H5, I7.turned (t' := s6.toks) (fun b o hb e => (sb.2 b hb).trans e) g0 g1 g3 g4 g5, rfl, qq⟩⟩
    · have ti := T.item Z (by rw [← eZ]) (by rw [← eZ]) (by rw [← eZ]) zc i [] s5 _ H5 (fun _ _ => False) I5 (still I5 n5) b5 go
      rw [show Z.A = X.A from by rw [← eZ]] at ti
      refine thnF ti fun r s6 ⟨u, hr, h6⟩ => ?_
      subst hr
      refine thnF h6 fun _ s7 ⟨x, H7, I7, r7, y7, b7, n7⟩ => ?_
      have J7 := I7.pinned (still I7 n7) (T.obj _ _ b7)
      have pa := pg.run _ s7 _ H7 x u _ J7 r7 (step x H7 y7)
      rw [show Z.A = X.A from by rw [← eZ], show Z.xe = fun _ _ => False from by rw [← eZ], show Z.env = ce from by rw [← eZ], show Z.prog = X.prog from by rw [← eZ], show Z.w = X.w from by rw [← eZ]] at pa
      refine thnF pa fun _ s8 ⟨σ8, H8, I8, hw8, q8⟩ => ?_
      simp only [List.forIn_nil]
      refine wpAny_pure ?_
      simp only [if_true]
      have pv := pe.run _ s8 σ8 H8 _ I8 q8
      rw [show Z.A = X.A from by rw [← eZ], show Z.xe = fun _ _ => False from by rw [← eZ], show Z.env = ce from by rw [← eZ], show Z.prog = X.prog from by rw [← eZ], show Z.w = X.w from by rw [← eZ]] at pv
      refine thnF pv fun z s9 ⟨yv, H9, I9, r9, c, S, k, ey, hD9, room, nx⟩ => ?_
      subst ey
      obtain ⟨t, rfl⟩ := (show ∃ t, z = Value.int c t from r9)
      have add := fun (Qa : Value → Shared → Prop) hq => addI_ok (X := Z) (E := notedBy (model X.prog X.w) X.A ce fun e s' => compPost (model X.prog X.w) X.A X.xe none (EP X pins σ Q) (.ref D) t3.heap.objs.size (.error e) s') (y := c) (t := t) (Q := Qa) I9 (by rw [show Z.w = X.w from by rw [← eZ]]; exact hD9) room hq
      rw [show Z.A = X.A from by rw [← eZ], show Z.prog = X.prog from by rw [← eZ], show Z.w = X.w from by rw [← eZ]] at add
      refine add _ fun s10 I10 => ?_
      obtain ⟨m', hm, w'⟩ := hNx _ nx
      have kept : ∀ b ∈ fp, ∀ o, s7.heap.get? b = some o → s10.heap.get? b = some o ∧ upd H9 D (SetO X.w D (fun j => S j || decide (j = c)) (if S c = true then k else k + 1)) b = none := fun b hb o e =>
        let z := I10.pin (b, o) (List.mem_append_right _ (List.mem_append_right _ (mem_pinsAt hb e)))
        ⟨z.1, z.2.1⟩
      have hl : (wipe σ (own.map (·.2))).length = σ8.length := by rw [← hw8, wipe_length]
      refine ⟨m', hm, i + 1, _, (I10.unpinned (pins := [])).weak hl (fun j v e => ?_), T.keep _ _ _ b7 fun b hb o e => (kept b hb o e).1, fun b hb => ?_, w'⟩
      · rw [← hw8] at e
        exact (wipe_some e).1
      · obtain ⟨o, e, _⟩ := T.obj _ _ b7 b hb
        exact (kept b hb o e).2
  exact PpSet.codeAny_compStart_set loop (T.self X.A 0 _ _ _ b4 loop)
end
end DL

set_option Elab.async false
set_option linter.all false
set_option maxRecDepth 100000
set_option autoImplicit false
/-! len({element for target in things}), over data -/
namespace DL
open PySem PySem.Spec PyProof.Rows L2
variable [Tabs]
/-- how many there are that are neither seen nor ahead -/
def dstN : List Int → List Int → Nat
  | _, [] => 0
  | seen, x :: xs => (if x ∈ seen then 0 else 1) + dstN (x :: seen) xs
def asInts : List D → Option (List Int)
  | [] => some []
  | .int i :: ds => (asInts ds).map (i :: ·)
  | _ :: _ => none
/-- a tracked thing of ours that no slot names -/
structure TmpOk (G : Ct) (δ : DS) (σ : L2.St) (F H : Hp) (p : Addr) (o : HO) : Prop where
  at_ : H p = some o
  f : F p = none
  h0 : G.H0 p = none
  ns : ∀ (i : Nat) (s : Sl), δ[i]? = some s → s.held = true → σ[i]? ≠ some (some (.ref p))
section
variable {G : Ct} {C' : Cf} {δ δ2 : DS} {σ σ2 : L2.St} {F H F2 H2 F' H' : Hp} {p : Addr} {o o' : HO}
theorem TmpOk.grow (w : TmpOk G δ σ F H p o) (f3 : Same H H') (f4 : ∀ b, F' b ≠ none → F b ≠ none ∨ H b = none) : TmpOk G δ σ F' H' p o := by
  refine ⟨f3 _ _ w.at_, ?_, w.h0, w.ns⟩
  cases e : F' p with
  | none => rfl
  | some u =>
    rcases f4 p (by rw [e]; simp) with z | z
    · exact absurd w.f z
    · rw [w.at_] at z; cases z
theorem TmpOk.blk (k : St1 G δ σ F H) (k2 : St1 (G.blk C' δ σ F H) δ2 σ2 F2 H2) (hl : σ2.length = σ.length) (w : TmpOk G δ σ F H p o) : TmpOk G (back δ δ2) σ F2 H2 p o := by
  refine ⟨k2.h0 p o (fun i hi => ?_) w.at_, ?_, w.h0, fun i s e q => ?_⟩
  · obtain ⟨s, a1, a2, a3⟩ := blk_M hi
    exact w.ns i s a1 a2 a3
  · cases e : F2 p with
    | none => rfl
    | some u =>
      rcases k2.fn p (by rw [e]; simp) with z | z
      · exact absurd w.f z
      · have z : H p = none := z
        rw [w.at_] at z
        cases z
  · have hlt : i < δ.length := by
      have := (List.getElem?_eq_some_iff.mp e).1
      rw [back_len] at this
      exact this
    obtain ⟨t, et⟩ : ∃ t, δ[i]? = some t := ⟨_, List.getElem?_eq_getElem hlt⟩
    have hlt2 : i < δ2.length := by rw [k2.len, hl, ← k.len]; exact hlt
    obtain ⟨u', eu⟩ : ∃ u, δ2[i]? = some u := ⟨_, List.getElem?_eq_getElem hlt2⟩
    rw [back_get δ δ2 i t u' et eu] at e
    refine w.ns i t et ?_
    cases e
    cases t with
    | own c => rfl
    | arg c => rfl
    | no => cases u' <;> exact q
    | fz d => cases u' <;> exact q
theorem TmpOk.upd (k : St1 G δ σ F H) (w : TmpOk G δ σ F H p o) : St1 G δ σ F (upd H p o') := by
  obtain ⟨h1, h2, h4, h5⟩ := w
  exact {
    len := k.len
    fh := fun b u e => by
      rw [upd_ne (fun z => by subst z; rw [h2] at e; cases e)]
      exact k.fh _ _ e
    f0 := k.f0
    h0 := fun b u hm e => by
      rw [upd_ne (fun z => by subst z; rw [h4] at e; cases e)]
      exact k.h0 b u hm e
    fn := k.fn
    sl := fun i s e => (k.sl i s e).mono (Same.refl F) fun b u g1 g2 g3 g4 => ⟨by
      rw [upd_ne (fun z => by subst z; exact h5 i s e g3 g4)]
      exact g2, g1⟩
    di := k.di
    ma := k.ma
    tb := k.tb }
/-- such a new thing -/
theorem TmpOk.new (k : St1 G δ σ F H) (hp : H p = none) : St1 G δ σ F (L2.upd H p o) ∧ TmpOk G δ σ F (L2.upd H p o) p o := by
  have fp : F p = none := by
    cases e : F p with
    | none => rfl
    | some u =>
      have z := k.fh _ _ e
      rw [hp] at z
      cases z
  have ns : ∀ (i : Nat) (s : Sl), δ[i]? = some s → s.held = true → σ[i]? ≠ some (some (.ref p)) := fun i s e q r => by
    obtain ⟨c, hc⟩ : ∃ c, s.co = some c := by
      cases s with
      | own c => exact ⟨c, rfl⟩
      | arg c => exact ⟨c, rfl⟩
      | no => cases q
      | fz d => cases q
    obtain ⟨p', o', a1, a2, _⟩ := k.held e hc
    rw [r] at a1
    cases a1
    rw [hp] at a2
    cases a2
  refine ⟨k.more (same_upd hp), upd_same, fp, k.new0 hp, ns⟩
end
section
variable {X : Cx} {C : Cf}
theorem pe_lenS {a : Expr} {ta : TE} {p pos : Pos} (hm : X.mg "len" = none) (ha : PE X a ta) (hg : Gl X "len" := by rfl) (na : starEach [a] X.env = (false, eval a X.env) :: starEach [] X.env := by rfl) :
    PE X (.Call (.Name "len" p) [a] [] pos) (fun σ H Q => ta σ H fun x H1 => ∃ (D : Addr) (S : Int → Bool) (n : Nat), x = .ref D ∧ H1 D = some (SetO X.w D S n) ∧ n ≤ 4000 ∧ Q (.int n) H1) := by
  refine ⟨fun pins s σ H Q I h => ?_⟩
  apply wpAny_Call_Name_kw
  refine ld_blt I hg hm boot_len ?_
  refine PyProof.Rows.callWith_builtin1 (PyProof.Rows.args_cons (thn (ha.run pins s σ H _ I h) fun v s1 ⟨x, H1, I1, r1, q1⟩ => PyProof.Rows.args_nil ?_) na) na rfl
  obtain ⟨D, S, n, rfl, hD, hn, q⟩ := q1
  cases r1
  obtain ⟨o, es, ep, t, ho, hex, hd, _, _, _, _, hf, en, _⟩ := setO_get I1 hD
  exact call_len_set ho hex hd hf (by rw [en]; omega) ⟨.int n, H1, I1.tok _, ⟨_, by rw [en]⟩, q⟩
def dLenS (vs : List Nat) (ti : Di) (g : Dg) (te : De) : De := fun δ => (ti δ).bind fun ds δ1 => okIf (decide (ds.length ≤ 1000) && freeAt vs δ1) (match compL (turnL vs g dYes te) ds δ1 with
  | .ok l δ2 => (match asInts l with
    | some ns => .ok (.fz (.int (dstN [] ns : Nat))) δ2
    | none => .bad)
  | _ => .bad)
/-- one turn -/
theorem set_turn {w : World} {G : Ct} {δ : DS} {σ : L2.St} {F H : Hp} {vs ts : List Nat} {g : Dg} {te : De} {d : D} {c : Int} {δ1 : DS} {x : V} {p : Addr} {S : Int → Bool} {n : Nat} {Nx : Hp → Prop} (k : St1 G δ σ F H) (wd : Dp G.K F x d) (hts : ∀ t ∈ ts, t ∈ vs) (hv : freeAt vs δ = true)
    (wa : TmpOk G δ σ F H p (SetO w p S n)) (room : n + 1 < scanBound) (e : turnL vs g dYes te d δ = .ok (some (.int c)) δ1)
    (q : ∀ F' H', St1 G δ1 σ F' H' → Same F F' → TmpOk G δ1 σ F' H' p (SetO w p (fun j => S j || decide (j = c)) (if S c = true then n else n + 1)) → Nx H') :
    upG (nox G.C) ts g x (wipe σ vs) H fun σ2 H2 => wipe σ2 vs = wipe σ vs ∧ up (nox G.C) te σ2 H2 fun y H4 => ∃ (c : Int) (S : Int → Bool) (n : Nat), y = .int c ∧ H4 p = some (SetO w p S n) ∧ n + 1 < scanBound ∧ Nx (upd H4 p (SetO w p (fun j => S j || decide (j = c)) (if S c = true then n else n + 1))) := by
  have kb := blk_in (C' := nox G.C) (vs := vs) k rfl hv
  unfold turnL onTurn at e
  refine ⟨G.blk (nox G.C) δ σ F H, _, F, d, rfl, kb, wd, ?_⟩
  cases e1 : g d (wipeD (δ.map toArg) vs) with
  | ok og δ2 =>
    rw [e1] at e
    cases og with
    | nx =>
      intro σ2 F2 H2 k2 g2 a2
      have wl : σ2.length = (wipe σ vs).length := a2.2
      refine ⟨?_, ?_⟩
      · have z : wipe σ2 vs = wipe (wipe σ vs) vs := wipe_eq (fun j hj => a2.1 j fun z => hj (hts j z)) wl
        rw [z]
        exact wipe_eq (fun j hj => wipe_out hj) (wipe_length σ vs)
      · rw [wipe_length] at wl
        have e : backR δ ((te δ2).bind fun x δ4 => (kp x δ4).bind fun d δ5 => R.ok (some d) δ5) = .ok (some (.int c)) δ1 := e
        cases e3 : te δ2 with
        | ok x4 δ4 =>
          rw [e3] at e
          refine ⟨G.blk (nox G.C) δ σ F H, δ2, F2, rfl, k2, ?_⟩
          rw [e3]
          intro y F4 H4 k4 g4 w4
          have e : backR δ ((kp x4 δ4).bind fun d δ5 => R.ok (some d) δ5) = .ok (some (.int c)) δ1 := e
          cases e4 : kp x4 δ4 with
          | ok d5 δ5 =>
            rw [e4] at e
            have e : R.ok (some d5) (back δ δ5) = R.ok (some (.int c)) δ1 := e
            cases e
            obtain ⟨F5, k5, g5, w5⟩ := k4.keepV w4 e4
            have k6 := blk_out (C' := nox G.C) k rfl k5 wl
            have w6 := TmpOk.blk k k5 wl wa
            have ey : y = .int c := by cases w5; rfl
            exact ⟨c, S, n, ey, w6.at_, room, q F5 _ (TmpOk.upd k6 w6) ((g2.trans g4).trans g5) ⟨upd_same, w6.f, w6.h0, w6.ns⟩⟩
          | ex cc s => rw [e4] at e; cases e
          | bad => rw [e4] at e; cases e
        | ex cc s => rw [e3] at e; cases e
        | bad => rw [e3] at e; cases e
    | bk => cases e
    | ct => cases e
    | rt v => cases e
  | ex cc s => rw [e1] at e; cases e
  | bad => rw [e1] at e; cases e
theorem turnL_yes {vs : List Nat} {g : Dg} {te : De} {d : D} {o : Option D} {δ δ1 : DS} (e : turnL vs g dYes te d δ = .ok o δ1) : ∃ x, o = some x := by
  unfold turnL onTurn at e
  cases e1 : g d (wipeD (δ.map toArg) vs) with
  | ok og δ2 =>
    rw [e1] at e
    cases og with
    | nx =>
      have e : backR δ ((te δ2).bind fun x δ4 => (kp x δ4).bind fun d δ5 => R.ok (some d) δ5) = .ok o δ1 := e
      cases e3 : te δ2 with
      | ok x4 δ4 =>
        rw [e3] at e
        have e : backR δ ((kp x4 δ4).bind fun d δ5 => R.ok (some d) δ5) = .ok o δ1 := e
        cases e4 : kp x4 δ4 with
        | ok d5 δ5 =>
          rw [e4] at e
          have e : R.ok (some d5) (back δ δ5) = R.ok o δ1 := e
          cases e
          exact ⟨_, rfl⟩
        | ex cc s => rw [e4] at e; cases e
        | bad => rw [e4] at e; cases e
      | ex cc s => rw [e3] at e; cases e
      | bad => rw [e3] at e; cases e
    | bk => cases e
    | ct => cases e
    | rt v => cases e
  | ex cc s => rw [e1] at e; cases e
  | bad => rw [e1] at e; cases e
theorem asInts_cons {x : D} {l : List D} {ns : List Int} (h : asInts (x :: l) = some ns) : ∃ c ns', x = .int c ∧ asInts l = some ns' ∧ ns = c :: ns' := by
  cases x with
  | int c =>
    have h : (asInts l).map (c :: ·) = some ns := h
    cases e : asInts l with
    | none => rw [e] at h; cases h
    | some ns' => rw [e] at h; cases h; exact ⟨c, ns', rfl, rfl, rfl⟩
  | _ => cases h
theorem rf_lenS {w : World} {vs ts : List Nat} {ti : Di} {g : Dg} {te : De} (hts : ∀ t ∈ ts, t ∈ vs) : ∀ σ H Q, up C (dLenS vs ti g te) σ H Q → tScI w (upI C ti) (upG (nox C) ts g) (up (nox C) te) vs σ H fun x H1 => ∃ (D : Addr) (S : Int → Bool) (n : Nat), x = .ref D ∧ H1 D = some (SetO w D S n) ∧ n ≤ 4000 ∧ Q (.int n) H1 := fun σ H Q ⟨G, δ, F, hC, k, h⟩ => by
  subst hC
  refine ⟨G, δ, F, rfl, k, finA_bind h fun ds δ1 J F1 H1 k1 g1 w1 h1 => ?_⟩
  have w1 : ItOk G.K J F1 ds := w1
  obtain ⟨z, h2⟩ := okIf_fin h1
  rw [Bool.and_eq_true] at z
  obtain ⟨z1, z2⟩ := z
  have z1 : ds.length ≤ 1000 := of_decide_eq_true z1
  intro p hp
  cases ec : compL (turnL vs g dYes te) ds δ1 with
  | ex c s => rw [ec] at h2; exact h2.elim
  | bad => rw [ec] at h2; exact h2.elim
  | ok L δe =>
    rw [ec] at h2
    cases ei : asInts L with
    | none => simp only [ei] at h2; exact h2.elim
    | some ns =>
      simp only [ei] at h2
      have h2 : ∀ v F' H', St1 G δe σ F' H' → Same F1 F' → VlOk G δe σ F' H' v (.fz (.int (dstN [] ns : Nat))) → Q v H' := h2
      obtain ⟨kn, tn⟩ := TmpOk.new (o := SetO w p (fun _ => false) 0) k1 hp
      refine ⟨fun i m H => m = ds.length - i ∧ i ≤ ds.length ∧ ∃ δ F S n seen l ns', St1 G δ σ F H ∧ Same F1 F ∧ freeAt vs δ = true ∧ TmpOk G δ σ F H p (SetO w p S n) ∧ (∀ j, S j = true ↔ j ∈ seen) ∧ n ≤ i ∧ compL (turnL vs g dYes te) (ds.drop i) δ = .ok l δe ∧ asInts l = some ns' ∧ n + dstN seen ns' = dstN [] ns,
        ⟨ds.length, by simp, Nat.zero_le _, δ1, F1, _, 0, [], L, ns, kn, Same.refl F1, z2, tn, fun j => by simp, Nat.le_refl _, ec, ei, by omega⟩, ?_⟩
      rintro i m H2 ⟨rfl, hi, δ2, F2, S, n, seen, l, ns', k2, g2, hv, wa, hS, hn, e2, ei2, tot⟩
      obtain ⟨wgo, wst⟩ := w1 F2 H2 g2 k2.fh i
      by_cases hlt : i < ds.length
      · right
        obtain ⟨go, yl⟩ := wgo ds[i] (List.getElem?_eq_getElem hlt)
        rw [List.drop_eq_getElem_cons hlt] at e2
        obtain ⟨o, δ3, l', e3, e4, rfl⟩ := compL_cons e2
        obtain ⟨y, rfl⟩ := turnL_yes e3
        obtain ⟨c, ns2, rfl, ei3, rfl⟩ := asInts_cons (show asInts (y :: l') = some ns' from ei2)
        refine ⟨go, fun H' => ∃ F', St1 G δ3 σ F' H' ∧ Same F1 F' ∧ TmpOk G δ3 σ F' H' p (SetO w p (fun j => S j || decide (j = c)) (if S c = true then n else n + 1)), fun H' ⟨F', q1, q2, q3⟩ => ⟨ds.length - (i + 1), by omega, rfl, hlt, δ3, F', _, _, c :: seen, l', ns2, q1, q2, turnL_free e3 hv, q3, fun j => ?_, ?_, e4, ei3, ?_⟩, fun x H3 y => ?_⟩
        · rw [Bool.or_eq_true, hS j, decide_eq_true_iff, List.mem_cons]
          exact Or.comm
        · split <;> omega
        · have tot : n + ((if c ∈ seen then 0 else 1) + dstN (c :: seen) ns2) = dstN [] ns := tot
          by_cases hc : c ∈ seen
          · rw [if_pos hc] at tot
            rw [if_pos ((hS c).mpr hc)]
            omega
          · rw [if_neg hc] at tot
            rw [if_neg (fun z => hc ((hS c).mp z))]
            omega
        · obtain ⟨F3, f1, f2, f3, f4, w3⟩ := yl x H3 y
          have k3 := grow_it k2 f1 f2 f3 f4
          exact set_turn (Nx := fun H' => ∃ F', St1 G δ3 σ F' H' ∧ Same F1 F' ∧ TmpOk G δ3 σ F' H' p (SetO w p (fun j => S j || decide (j = c)) (if S c = true then n else n + 1))) k3 w3 hts hv (wa.grow f3 f4) (by unfold scanBound; omega) e3 fun F' H' q1 q2 q3 => ⟨F', q1, (g2.trans f1).trans q2, q3⟩
      · left
        have e : i = ds.length := by omega
        subst e
        refine ⟨wst rfl, p, S, n, rfl, wa.at_, by omega, ?_⟩
        rw [List.drop_length] at e2
        cases e2
        cases ei2
        have tot : n + 0 = dstN [] ns := tot
        have en : (V.int (n : Int)) = .int (dstN [] ns : Nat) := by rw [← tot]; rfl
        rw [en]
        exact h2 _ F2 H2 k2 g2 (.int _)
theorem pd_lenS {elt tg iter : Expr} {scope : Scope} {own : List (Str × Nat)} {ts : List Nat} {ti : Di} {g : Dg} {te : De} {p spos pos : Pos} (hm : X.mg "len" = none) (hi : PI X tg iter (upI C ti)) (hN : X.N.Nodup) (ok : BlkOk X.N X.env.scope scope own)
    (hg : ∀ (s : Shared) (H : Hp) (Ca : Addr) (cl : List (Str × Addr)) (fp : List Addr), PG (X.blk s H scope (compEnvC scope cl Ca X.env) fp) tg (upG (nox C) ts g))
    (he : ∀ (s : Shared) (H : Hp) (Ca : Addr) (cl : List (Str × Addr)) (fp : List Addr), PE (X.blk s H scope (compEnvC scope cl Ca X.env) fp) elt (up (nox C) te)) (hts : ∀ t ∈ ts, t ∈ own.map (·.2) := by decide) (hc : X.calm = true := by rfl) (hgl : Gl X "len" := by rfl) (hs : ∀ x, foldedSetIterable iter X.env x = pure x := by intro _; rfl)
    (na : starEach [.SetComp elt [⟨tg, iter, [], 0⟩] scope spos] X.env = (false, eval (.SetComp elt [⟨tg, iter, [], 0⟩] scope spos) X.env) :: starEach [] X.env := by rfl) :
    PE X (.Call (.Name "len" p) [.SetComp elt [⟨tg, iter, [], 0⟩] scope spos] [] pos) (up C (dLenS (own.map (·.2)) ti g te)) := pe_weak (pe_lenS hm (pe_scI hc hN hi ok hg he hs) hgl na) (rf_lenS hts)
end
end DL

set_option Elab.async false
set_option linter.all false
set_option maxRecDepth 100000
set_option autoImplicit false
/-! dicts that are made once and then read alone -/
namespace DL
open PySem PySem.Spec PyProof.Rows L2
variable [Tabs]
section
variable {X : Cx} {C : Cf} {e a b l tg : Expr} {ta tb : De} {pos : Pos} {k : Nat}
/-! ### a dict that is not changed any more -/
def tFrz (t : TE) : TE := fun σ H Q => t σ H fun v H1 => ∃ d u, v = .ref d ∧ H1 d = some u ∧ Mut (some u) ∧ ∀ od, Q v (upd H1 d (.frz od u))
theorem pe_frz {t : TE} (h : PE X e t) : PE X e (tFrz t) := ⟨fun pins s σ H Q I q => thn (h.run pins s σ H _ I q) fun u s1 ⟨v, H1, I1, r, d, w, hv, hd, mu, q2⟩ => by
  obtain ⟨od, I2⟩ := I1.lock hd mu
  exact ⟨v, _, I2, r, q2 od⟩⟩
def keysOf (kvs : List (Key × D)) : List D := kvs.map fun q => keyD q.1
def valsOf (kvs : List (Key × D)) : List D := kvs.map fun q => q.2
theorem pairs_keys {K : PySem.W.Frag} {F : Hp} : ∀ {ws : List (Key × V)} {kvs : List (Key × D)}, Paired (fun (p : Key × V) (q : Key × D) => p.1 = q.1 ∧ Dp K F p.2 q.2) ws kvs → (ws.map fun w => keyD w.1) = keysOf kvs ∧ DpAll K F (ws.map Prod.snd) (valsOf kvs) := by
  intro ws kvs h
  induction h with
  | nil => exact ⟨rfl, .nil⟩
  | cons r _ ih =>
    obtain ⟨a, b⟩ := ih
    refine ⟨?_, .cons r.2 b⟩
    unfold keysOf at a ⊢
    rw [List.map_cons, List.map_cons, a, r.1]
def dFrz (a : De) : De := fun δ => (a δ).bind fun x δ1 => match x with
  | .own (.dct kvs) => .ok (.fz (dctD (keysOf kvs) (valsOf kvs))) δ1
  | _ => .bad
theorem St1.lockF {G : Ct} {δ : DS} {σ : L2.St} {F H : Hp} {p : Addr} {o : HO} {od : Obj} (k : St1 G δ σ F H) (hp : H p = some o) (hf : F p = none) (h0 : G.H0 p = none) (fr : ∀ (i : Nat) (s : Sl), δ[i]? = some s → s.held = true → σ[i]? ≠ some (some (.ref p))) :
    St1 G δ σ (upd F p (.frz od o)) (upd H p (.frz od o)) where
  len := k.len
  fh := fun b u e => by
    by_cases hb : b = p
    · subst hb; rw [upd_same] at e ⊢; exact e
    · rw [upd_ne hb] at e ⊢; exact k.fh _ _ e
  f0 := k.f0.trans (same_upd hf)
  h0 := fun b u hm e => by
    have hb : b ≠ p := fun z => by rw [z, h0] at e; cases e
    rw [upd_ne hb]
    exact k.h0 b u hm e
  fn := fun b e => by
    by_cases hb : b = p
    · subst hb; exact .inr h0
    · rw [upd_ne hb] at e; exact k.fn b e
  sl := fun i s e => (k.sl i s e).mono (same_upd hf) fun b u h1 h2 h3 h4 => by
    have hb : b ≠ p := fun z => fr i s e h3 (by rw [← z]; exact h4)
    rw [upd_ne hb, upd_ne hb]
    exact ⟨h2, h1⟩
  di := k.di
  ma := k.ma
  tb := k.tb
theorem rf_frz : ∀ σ H Q, up C (dFrz ta) σ H Q → tFrz (up C ta) σ H Q := fun σ H Q ⟨G, δ, F, hC, k, h⟩ => by
  subst hC
  refine ⟨G, δ, F, rfl, k, finA_bind h fun x δ1 v F1 H1 k1 g1 w1 h1 => ?_⟩
  cases x with
  | fz d => exact h1.elim
  | loc i => exact h1.elim
  | own c =>
    cases c with
    | lst ds => exact h1.elim
    | dct kvs =>
      obtain ⟨p, o, rfl, q1, q2, ⟨ws, rfl, q3⟩, q4, q5⟩ := w1
      refine ⟨p, _, rfl, q1, trivial, fun od => ?_⟩
      obtain ⟨r1, r2⟩ := pairs_keys q3
      refine h1 _ (upd F1 p (.frz od (.dK ws))) (upd H1 p (.frz od (.dK ws))) (k1.lockF q1 q2 q4 q5) (same_upd q2) ?_
      show Dp G.K _ (.ref p) (dctD (keysOf kvs) (valsOf kvs))
      rw [← r1]
      exact .dct (od := od) upd_same (dpa_mono (same_upd q2) _ _ r2)
theorem pd_frz (ha : PE X e (up C ta)) : PE X e (up C (dFrz ta)) := pe_weak (pe_frz ha) rf_frz
/-! ### its things, one by one -/
def valsD (d : D) (δ : DS) : R (List D) := match d with
  | .dict [(.bool true, .list _), (.bool false, .list ds)] => .ok ds δ
  | _ => .bad
def dVals (a : De) : Di := fun δ => (a δ).bind fun x δ1 => (kp x δ1).bind fun d δ2 => valsD d δ2
theorem valsD_some {G : Ct} {d : D} {δ : DS} {σ : L2.St} {F : Hp} {R : It → Hp → Prop} (h : finA G (WI G) (valsD d δ) σ F R) : ∃ ks ds, d = dctD ks ds ∧ finA G (WI G) (.ok ds δ) σ F R := by
  unfold valsD at h
  split at h
  · exact ⟨_, _, rfl, h⟩
  · exact h.elim
theorem it_vals {K : PySem.W.Frag} {F : Hp} {p : Addr} {od : Obj} {ws : List (Key × V)} {ds : List D} (h : F p = some (.frz od (.dK ws))) (w : DpAll K F (ws.map Prod.snd) ds) : ItOk K (Itd p od ws) F ds := fun F2 H2 f2 h2 i => by
  have hq := (f2.trans h2) _ _ h
  have hl : ws.length = ds.length := by
    rw [← dpa_len w, List.length_map]
  refine ⟨fun d hd => ?_, fun hi => ⟨hq, by omega⟩⟩
  obtain ⟨v, e1, e2⟩ := dpa_get w hd
  have hi := (List.getElem?_eq_some_iff.mp hd).1
  refine ⟨⟨hq, by omega⟩, fun x H3 y => ?_⟩
  obtain ⟨rfl, c, y⟩ := y
  have ex : v = x := by
    rw [List.getElem?_map, y] at e1
    exact (Option.some.inj e1).symm
  subst ex
  exact ⟨F2, Same.refl F2, h2, Same.refl _, fun b z => .inl z, dp_mono f2 _ _ e2⟩
theorem kp_ex {x : Vl} {δ s : DS} {c : Value} (e : kp x δ = .ex c s) : False := by
  cases x with
  | fz d => cases e
  | own cc => cases cc <;> cases e
  | loc i =>
    unfold kp at e
    simp only at e
    split at e <;> cases e
theorem pdi_vals {apos cpos : Pos} (ha : PE X e (up C ta)) (hbase : attributeBase e "values" X.env (eval e X.env) = eval e X.env := by rfl) (hline : (apos.endLine == cpos.line) = true := by rfl) (hK : C.K = X.K := by rfl) :
    PI X tg (.Call (.Attribute e "values" apos) [] [] cpos) (upI C (dVals ta)) := by
  refine pi_weak (pi_values ha hbase hline) fun σ H R ⟨G, δ, F, hC, k, h⟩ => ?_
  subst hC
  refine ⟨G, δ, F, rfl, k, finA_bind h fun x δ1 v F1 H1 k1 g1 w1 h1 => ?_⟩
  cases e : kp x δ1 with
  | bad => rw [e] at h1; exact h1.elim
  | ex c s => exact (kp_ex e).elim
  | ok d δ2 =>
    rw [e] at h1
    have h1 : finA G (WI G) (valsD d δ2) σ F1 R := h1
    obtain ⟨F2, k2, g2, w2⟩ := k1.keepV w1 e
    obtain ⟨ks, ds, rfl, h2⟩ := valsD_some h1
    cases w2 with
    | @dct p od ws ds q w =>
      exact ⟨p, od, ws, rfl, k2.fh _ _ q, h2 _ F2 H1 k2 g2 (it_vals q w)⟩
end
end DL

set_option Elab.async false
set_option linter.all false
set_option maxRecDepth 100000
set_option autoImplicit false
/-! things gathered by keys: d.setdefault(k, []).append(v), as a whole loop -/
namespace DL
open PySem PySem.Spec PyProof.Rows L2
variable [Tabs]
def noHeld (δ : DS) : Bool := δ.all fun s => !s.held
theorem noHeld_at {δ : DS} (h : noHeld δ = true) {i : Nat} {s : Sl} (e : δ[i]? = some s) : s.held = false := by
  have := List.all_eq_true.mp h s (List.mem_of_getElem? e)
  simpa using this
def keyOf : D → Option Key
  | .int i => some (.inl i)
  | .str x => some (.inr x)
  | _ => none
def putG (acc : List (Key × List D)) (k : Key) (d : D) : List (Key × List D) := if (acc.any fun q => decide (q.1 = k)) = true then acc.map (fun q => if q.1 = k then (q.1, q.2 ++ [d]) else q) else acc ++ [(k, [d])]
def szG (acc : List (Key × List D)) : Bool := small acc.length && acc.all fun q => small q.2.length
def grpT (kE vE : De) (acc : List (Key × List D)) (δ : DS) : R (List (Key × List D)) := match kE δ with
  | .ok (.fz kd) δ1 => match keyOf kd with
    | some k => match vE δ1 with
      | .ok (.fz vd) δ2 => okIf (noHeld δ && noHeld δ1 && noHeld δ2 && szG acc) (.ok (putG acc k vd) δ2)
      | _ => .bad
    | none => .bad
  | _ => .bad
def grpL (g : Dg) (kE vE : De) : List D → List (Key × List D) → DS → R (List (Key × List D))
  | [], acc, δ => .ok acc δ
  | d :: ds, acc, δ => match g d δ with
    | .ok .nx δ1 => match grpT kE vE acc δ1 with
      | .ok acc' δ2 => grpL g kE vE ds acc' δ2
      | _ => .bad
    | _ => .bad
def lstG (acc : List (Key × List D)) : List (Key × D) := acc.map fun q => (q.1, .list q.2)
def isDct0 : Option Sl → Bool
  | some (.own (.dct [])) => true
  | _ => false
def dGrp (j : Nat) (ti : Di) (g : Dg) (kE vE : De) : Ds := fun δ => okIf (isDct0 δ[j]? && noHeld (δ.set j .no)) (match ti (δ.set j .no) with
  | .ok ds δ1 => match grpL g kE vE ds [] δ1 with
    | .ok acc δ2 => okIf (noHeld δ1 && noHeld δ2) (.ok .nx (δ2.set j (.own (.dct (lstG acc)))))
    | _ => .bad
  | _ => .bad)
theorem isDct0_some {s : Option Sl} (h : isDct0 s = true) : s = some (.own (.dct [])) := by
  unfold isDct0 at h
  split at h
  · rfl
  · cases h
theorem okIf_ok {α : Type} {t : Bool} {r : R α} {a : α} {δ : DS} (h : okIf t r = .ok a δ) : t = true ∧ r = .ok a δ := by
  cases t with
  | true => exact ⟨rfl, h⟩
  | false => cases h
theorem grpT_ok {kE vE : De} {acc acc' : List (Key × List D)} {δ δ2 : DS} (h : grpT kE vE acc δ = .ok acc' δ2) : ∃ kd δ1 k vd, kE δ = .ok (.fz kd) δ1 ∧ keyOf kd = some k ∧ vE δ1 = .ok (.fz vd) δ2 ∧ noHeld δ = true ∧ noHeld δ1 = true ∧ noHeld δ2 = true ∧ szG acc = true ∧ acc' = putG acc k vd := by
  unfold grpT at h
  split at h
  · rename_i kd δ1 e1
    split at h
    · rename_i k e2
      split at h
      · rename_i vd δ3 e3
        obtain ⟨z, h⟩ := okIf_ok h
        cases h
        rw [Bool.and_eq_true, Bool.and_eq_true, Bool.and_eq_true] at z
        exact ⟨kd, δ1, k, vd, e1, e2, e3, z.1.1.1, z.1.1.2, z.1.2, z.2, rfl⟩
      · cases h
    · cases h
  · cases h
theorem grpL_cons {g : Dg} {kE vE : De} {d : D} {ds : List D} {acc r : List (Key × List D)} {δ δe : DS} (h : grpL g kE vE (d :: ds) acc δ = .ok r δe) : ∃ δ1 acc' δ2, g d δ = .ok .nx δ1 ∧ grpT kE vE acc δ1 = .ok acc' δ2 ∧ grpL g kE vE ds acc' δ2 = .ok r δe := by
  unfold grpL at h
  split at h
  · rename_i δ1 e1
    split at h
    · rename_i acc' δ2 e2
      exact ⟨δ1, acc', δ2, e1, e2, h⟩
    · cases h
  · cases h
section
variable {G : Ct} {δ δ' : DS} {σ σ' : L2.St} {F F' H H' : Hp} {p : Addr}
/-- the state with all that there is taken as it stands -/
def iso (C : Cf) (F H : Hp) : Ct := ⟨C, F, H, fun _ => none⟩
theorem St1.iso (k : St1 G δ σ F H) (hn : noHeld δ = true) : St1 (DL.iso G.C F H) δ σ F H where
  len := k.len
  fh := k.fh
  f0 := Same.refl F
  h0 := fun b o _ e => e
  fn := fun b e => .inl e
  sl := fun i s e => by
    have z := k.sl i s e
    have hh := noHeld_at hn e
    cases s with
    | no => trivial
    | fz d => exact z
    | own c => cases hh
    | arg c => cases hh
  di := fun i j s t p hij e1 e2 h1 h2 _ _ => by rw [noHeld_at hn e1] at h1; cases h1
  tb := k.tabF
  ma := fun i p e => nomatch (show (none : Option Addr) = some p from e)
theorem St1.back (k : St1 G δ σ F H) (hn : noHeld δ = true) (k' : St1 (DL.iso G.C F H) δ' σ' F' H') (hn' : noHeld δ' = true) : St1 G δ' σ' F' H' where
  len := k'.len
  fh := k'.fh
  f0 := k.f0.trans k'.f0
  h0 := fun b o hm e => k'.h0 b o (fun i z => nomatch (show (none : Option Addr) = some b from z)) (k.h0 b o hm e)
  fn := fun b e => by
    rcases k'.fn b e with q | q
    · exact k.fn b q
    · exact .inr (k.new0 q)
  sl := fun i s e => by
    have z := k'.sl i s e
    have hh := noHeld_at hn' e
    cases s with
    | no => trivial
    | fz d => exact z
    | own c => cases hh
    | arg c => cases hh
  di := fun i j s t p hij e1 e2 h1 h2 _ _ => by rw [noHeld_at hn' e1] at h1; cases h1
  tb := k.tb
  ma := fun i p e => by
    obtain ⟨c, hc⟩ := k.ma i p e
    have := noHeld_at hn hc
    cases this
theorem iso_keep (k' : St1 (DL.iso G.C F H) δ' σ' F' H') : Same H H' := fun b o e => k'.h0 b o (fun i z => nomatch (show (none : Option Addr) = some b from z)) e
theorem iso_fn (k' : St1 (DL.iso G.C F H) δ' σ' F' H') : ∀ b, F' b ≠ none → F b ≠ none ∨ H b = none := k'.fn
theorem St1.updFree (k : St1 G δ σ F H) (hn : noHeld δ = true) {b : Addr} {o : HO} (hf : F b = none) (h0 : G.H0 b = none) : St1 G δ σ F (upd H b o) where
  len := k.len
  fh := fun c u e => by rw [upd_ne (fun z => by rw [z, hf] at e; cases e)]; exact k.fh _ _ e
  f0 := k.f0
  h0 := fun c u hm e => by rw [upd_ne (fun z => by rw [z, h0] at e; cases e)]; exact k.h0 c u hm e
  fn := k.fn
  sl := fun i s e => by
    have z := k.sl i s e
    have hh := noHeld_at hn e
    cases s with
    | no => trivial
    | fz d => exact z
    | own c => cases hh
    | arg c => cases hh
  di := k.di
  ma := k.ma
  tb := k.tb
def GrpE (G : Ct) (F H : Hp) (p : Addr) (w : Key × V) (q : Key × List D) : Prop := w.1 = q.1 ∧ ∃ a vs, w.2 = .ref a ∧ H a = some (.lst vs) ∧ DpAll G.K F vs q.2 ∧ F a = none ∧ G.H0 a = none ∧ a ≠ p
structure Grp (G : Ct) (F H : Hp) (p : Addr) (ws : List (Key × V)) (acc : List (Key × List D)) : Prop where
  d : H p = some (.dK ws)
  f : F p = none
  z : G.H0 p = none
  prs : Paired (GrpE G F H p) ws acc
  nd : (ws.map Prod.snd).Nodup
theorem Grp.keep {ws : List (Key × V)} {acc : List (Key × List D)} (g : Grp G F H p ws acc) (ff : Same F F') (hh : Same H H') (fn : ∀ b, F' b ≠ none → F b ≠ none ∨ H b = none) : Grp G F' H' p ws acc := by
  have nf : ∀ b o, H b = some o → F b = none → F' b = none := fun b o h1 h2 => by
    cases e : F' b with
    | none => rfl
    | some u =>
      rcases fn b (by rw [e]; exact fun z => nomatch z) with z | z
      · exact absurd h2 z
      · rw [h1] at z; cases z
  exact ⟨hh _ _ g.d, nf _ _ g.d g.f, g.z, Paired.mapP g.prs fun w q ⟨e, a, vs, h1, h2, h3, h4, h5, h6⟩ => ⟨e, a, vs, h1, hh _ _ h2, dpa_mono ff _ _ h3, nf _ _ h2 h4, h5, h6⟩, g.nd⟩
theorem grp_len {ws : List (Key × V)} {acc : List (Key × List D)} (g : Paired (GrpE G F H p) ws acc) : ws.length = acc.length := Paired.length g
theorem grp_find {ws : List (Key × V)} {acc : List (Key × List D)} {k : Key} (g : Paired (GrpE G F H p) ws acc) : (acc.any fun q => decide (q.1 = k)) = (ws.any fun w => decide (w.1 = k)) := by
  induction g with
  | nil => rfl
  | cons r _ ih => rw [List.any_cons, List.any_cons, ih, r.1]
theorem grp_none {ws : List (Key × V)} {k : Key} : valV ws k = none → (ws.any fun w => decide (w.1 = k)) = false := by
  induction ws with
  | nil => intro _; rfl
  | cons w ws ih =>
    intro h
    by_cases e : w.1 = k
    · rw [valV_pos e] at h; cases h
    · rw [valV_neg e] at h
      rw [List.any_cons, decide_eq_false e, ih h]
      rfl
theorem grp_rest {ws : List (Key × V)} {acc : List (Key × List D)} {k : Key} {d : D} {a : Addr} {o : HO} (g : Paired (GrpE G F H p) ws acc) : (∀ w ∈ ws, w.2 ≠ .ref a) → (∀ q ∈ acc, ¬q.1 = k) → Paired (GrpE G F (upd H a o) p) ws (acc.map fun q => if q.1 = k then (q.1, q.2 ++ [d]) else q) := by
  induction g with
  | nil => intro _ _; exact .nil
  | @cons w q ws qs r t ih =>
    intro hw hq
    rw [List.map_cons, if_neg (hq q List.mem_cons_self)]
    refine .cons ?_ (ih (fun w' h => hw w' (List.mem_cons_of_mem _ h)) fun q' h => hq q' (List.mem_cons_of_mem _ h))
    obtain ⟨e, b, vs, h1, h2, h3⟩ := r
    have hb : b ≠ a := fun z => hw w List.mem_cons_self (by rw [h1, z])
    exact ⟨e, b, vs, h1, by rw [upd_ne hb]; exact h2, h3⟩
/-- the thing of a key, and what becomes of all when it is made longer -/
theorem grp_some {ws : List (Key × V)} {acc : List (Key × List D)} {k : Key} {v : V} {d : D} (g : Paired (GrpE G F H p) ws acc) : (ws.map Prod.snd).Nodup → (acc.map Prod.fst).Nodup → valV ws k = some v →
    ∃ a vs, v = .ref a ∧ H a = some (.lst vs) ∧ F a = none ∧ G.H0 a = none ∧ a ≠ p ∧ v ∈ ws.map Prod.snd ∧ (acc.any fun q => decide (q.1 = k)) = true ∧ (∃ q ∈ acc, vs.length = q.2.length) ∧
      ∀ x : V, Dp G.K F x d → Paired (GrpE G F (upd H a (.lst (vs ++ [x]))) p) ws (acc.map fun q => if q.1 = k then (q.1, q.2 ++ [d]) else q) := by
  induction g with
  | nil => intro _ _ h; cases h
  | @cons w q ws qs r t ih =>
    intro n1 n2 h
    rw [List.map_cons, List.nodup_cons] at n1 n2
    obtain ⟨e, b, vs, h1, h2, h3, h4, h5, h6⟩ := r
    by_cases hk : w.1 = k
    · rw [valV_pos hk] at h
      have h := Option.some.inj h
      subst h
      have hq : q.1 = k := e.symm.trans hk
      refine ⟨b, vs, h1, h2, h4, h5, h6, List.mem_cons_self, by rw [List.any_cons, decide_eq_true hq]; rfl, ⟨q, List.mem_cons_self, dpa_len h3⟩, fun x hx => ?_⟩
      rw [List.map_cons, if_pos hq]
      refine .cons ⟨e, b, _, h1, upd_same, dpa_app h3 (.cons hx .nil), h4, h5, h6⟩ (grp_rest t (fun w' hw' z => n1.1 ?_) fun q' hq' z => n2.1 ?_)
      · rw [h1, ← z]
        exact List.mem_map.mpr ⟨w', hw', rfl⟩
      · rw [hq, ← z]
        exact List.mem_map.mpr ⟨q', hq', rfl⟩
    · rw [valV_neg hk] at h
      obtain ⟨a, us, g1, g2, g3, g4, g5, g6, g7, ⟨q', g8, g9⟩, g10⟩ := ih n1.2 n2.2 h
      have hq : ¬q.1 = k := fun z => hk (e.trans z)
      have hb : b ≠ a := fun z => n1.1 (by rw [h1, z, ← g1]; exact g6)
      refine ⟨a, us, g1, g2, g3, g4, g5, List.mem_cons_of_mem _ g6, by rw [List.any_cons, g7]; simp, ⟨q', List.mem_cons_of_mem _ g8, g9⟩, fun x hx => ?_⟩
      rw [List.map_cons, if_neg hq]
      exact .cons ⟨e, b, vs, h1, by rw [upd_ne hb]; exact h2, h3, h4, h5, h6⟩ (g10 x hx)
theorem grp_upd {ws : List (Key × V)} {acc : List (Key × List D)} {b : Addr} {o : HO} (g : Paired (GrpE G F H p) ws acc) (h : ∀ c u, H c = some u → c ≠ b) : Paired (GrpE G F (upd H b o) p) ws acc := Paired.mapP g fun w q ⟨e, a, vs, h1, h2, h3⟩ => ⟨e, a, vs, h1, by rw [upd_ne (h a _ h2)]; exact h2, h3⟩
theorem grp_updP {ws : List (Key × V)} {acc : List (Key × List D)} {o : HO} (g : Paired (GrpE G F H p) ws acc) : Paired (GrpE G F (upd H p o) p) ws acc := Paired.mapP g fun w q ⟨e, a, vs, h1, h2, h3, h4, h5, h6⟩ => ⟨e, a, vs, h1, by rw [upd_ne h6]; exact h2, h3, h4, h5, h6⟩
theorem putG_fst {acc : List (Key × List D)} {k : Key} {d : D} (h : (acc.map Prod.fst).Nodup) : ((putG acc k d).map Prod.fst).Nodup := by
  unfold putG
  split
  · rw [List.map_map]
    have : (Prod.fst ∘ fun q : Key × List D => if q.1 = k then (q.1, q.2 ++ [d]) else q) = Prod.fst := by
      funext q
      show (if q.1 = k then (q.1, q.2 ++ [d]) else q).1 = q.1
      split <;> rfl
    rw [this]
    exact h
  · rename_i hn
    rw [List.map_append, List.nodup_append]
    refine ⟨h, by simp, fun a ha b hb => ?_⟩
    have hb : b = k := by simpa using hb
    subst hb
    intro e
    subst e
    obtain ⟨q, hq, e⟩ := List.mem_map.mp ha
    exact hn (List.any_eq_true.mpr ⟨q, hq, decide_eq_true e⟩)
end
end DL

set_option Elab.async false
set_option linter.all false
set_option maxRecDepth 100000
set_option autoImplicit false
namespace DL
open PySem PySem.Spec PyProof.Rows L2
variable [Tabs]
section
variable {G : Ct} {δ δ' : DS} {σ σ' : L2.St} {F F' H H' : Hp} {p : Addr}
theorem St1.hide (k : St1 G δ σ F H) {j : Nat} {c : Co} (ej : δ[j]? = some (.own c)) : St1 G (δ.set j .no) σ F H where
  len := by rw [List.length_set]; exact k.len
  fh := k.fh
  f0 := k.f0
  h0 := k.h0
  fn := k.fn
  sl := fun i s e => by
    by_cases hi : j = i
    · subst hi
      rw [List.getElem?_set_self (List.getElem?_eq_some_iff.mp ej).1] at e
      cases e
      trivial
    · rw [List.getElem?_set_ne hi] at e
      exact k.sl i s e
  di := fun i i' s t q hij e1 e2 h1 h2 s1 s2 => by
    have go : ∀ (n : Nat) (s : Sl), (δ.set j .no)[n]? = some s → s.held = true → δ[n]? = some s := fun n s e hh => by
      by_cases hn : j = n
      · subst hn
        rw [List.getElem?_set_self (List.getElem?_eq_some_iff.mp ej).1] at e
        cases e
        cases hh
      · rw [List.getElem?_set_ne hn] at e
        exact e
    exact k.di i i' s t q hij (go i s e1 h1) (go i' t e2 h2) h1 h2 s1 s2
  tb := k.tb
  ma := fun i q e => by
    obtain ⟨c', hc⟩ := k.ma i q e
    by_cases hi : j = i
    · subst hi
      rw [ej] at hc
      cases hc
    · exact ⟨c', by rw [List.getElem?_set_ne hi]; exact hc⟩
theorem grp_mem {ws : List (Key × V)} {acc : List (Key × List D)} (g : Paired (GrpE G F H p) ws acc) : ∀ w ∈ ws, ∃ a vs, w.2 = .ref a ∧ H a = some (.lst vs) ∧ F a = none ∧ G.H0 a = none ∧ a ≠ p := by
  induction g with
  | nil => intro w hw; cases hw
  | @cons w q ws qs r t ih =>
    intro w' hw'
    obtain ⟨e, a, vs, h1, h2, h3, h4, h5, h6⟩ := r
    rcases List.mem_cons.mp hw' with rfl | hw'
    · exact ⟨a, vs, h1, h2, h4, h5, h6⟩
    · exact ih w' hw'
theorem grp_co {ws : List (Key × V)} {acc : List (Key × List D)} (ff : Same F F') (g : Paired (GrpE G F H p) ws acc) : (∀ w ∈ ws, ∀ a, w.2 = .ref a → F' a = H a) → Paired (fun (w : Key × V) (q : Key × D) => w.1 = q.1 ∧ Dp G.K F' w.2 q.2) ws (lstG acc) := by
  induction g with
  | nil => intro _; exact .nil
  | @cons w q ws qs r t ih =>
    intro h
    obtain ⟨e, a, vs, h1, h2, h3, h4, h5, h6⟩ := r
    refine .cons ⟨e, ?_⟩ (ih fun w' hw' => h w' (List.mem_cons_of_mem _ hw'))
    show Dp G.K F' w.2 (.list q.2)
    rw [h1]
    exact .lst (by rw [h w List.mem_cons_self a h1]; exact h2) (dpa_mono ff _ _ h3)
/-- at the end the things are taken as they stand -/
theorem grp_end (k : St1 G δ σ F H) (hn : noHeld δ = true) {j : Nat} {ws : List (Key × V)} {acc : List (Key × List D)} (g : Grp G F H p ws acc) (ej : σ[j]? = some (some (.ref p))) : ∃ F', St1 G (δ.set j (.own (.dct (lstG acc)))) σ F' H ∧ Same F F' := by
  classical
  have mem := grp_mem g.prs
  let F' : Hp := fun b => if (∃ w ∈ ws, w.2 = V.ref b) then H b else F b
  have in' : ∀ b, (∃ w ∈ ws, w.2 = V.ref b) → F' b = H b := fun b h => if_pos h
  have out' : ∀ b, ¬(∃ w ∈ ws, w.2 = V.ref b) → F' b = F b := fun b h => if_neg h
  have free : ∀ b, (∃ w ∈ ws, w.2 = V.ref b) → F b = none ∧ G.H0 b = none ∧ b ≠ p := fun b ⟨w, hw, e⟩ => by
    obtain ⟨a, vs, h1, h2, h3, h4, h5⟩ := mem w hw
    rw [h1] at e
    cases e
    exact ⟨h3, h4, h5⟩
  have ff : Same F F' := fun b o e => by
    by_cases h : ∃ w ∈ ws, w.2 = V.ref b
    · rw [(free b h).1] at e
      cases e
    · rw [out' b h]
      exact e
  have fp : F' p = none := by
    rw [out' p fun h => (free p h).2.2 rfl]
    exact g.f
  have hM : ∀ i q, G.M i ≠ some q := fun i q e => by
    obtain ⟨c, hc⟩ := k.ma i q e
    have := noHeld_at hn hc
    cases this
  have held : ∀ (n : Nat) (s : Sl), (δ.set j (.own (.dct (lstG acc))))[n]? = some s → s.held = true → n = j := fun n s e hh => by
    by_cases hi : j = n
    · exact hi.symm
    · rw [List.getElem?_set_ne hi] at e
      rw [noHeld_at hn e] at hh
      cases hh
  refine ⟨F', ⟨by rw [List.length_set]; exact k.len, fun b o e => ?_, k.f0.trans ff, k.h0, fun b e => ?_, fun i s e => ?_, fun i i' s t q hij e1 e2 h1 h2 _ _ => hij ((held i s e1 h1).trans (held i' t e2 h2).symm), fun i q e => absurd e (hM i q), k.tb⟩, ff⟩
  · by_cases h : ∃ w ∈ ws, w.2 = V.ref b
    · rw [in' b h] at e
      exact e
    · rw [out' b h] at e
      exact k.fh b o e
  · by_cases h : ∃ w ∈ ws, w.2 = V.ref b
    · exact .inr (free b h).2.1
    · rw [out' b h] at e
      exact k.fn b e
  · by_cases hi : j = i
    · subst hi
      have hlt : j < δ.length := by
        have := (List.getElem?_eq_some_iff.mp e).1
        rw [List.length_set] at this
        exact this
      rw [List.getElem?_set_self hlt] at e
      cases e
      refine ⟨p, _, ej, g.d, fp, ⟨ws, rfl, grp_co ff g.prs fun w hw a e => in' a ⟨w, hw, e⟩⟩, ?_, g.z⟩
      cases hm : G.M j with
      | none => rfl
      | some q => exact absurd hm (hM j q)
    · rw [List.getElem?_set_ne hi] at e
      have z := k.sl i s e
      have hh := noHeld_at hn e
      cases s with
      | no => trivial
      | fz d =>
        obtain ⟨v, a, b⟩ := z
        exact ⟨v, a, dp_mono ff _ _ b⟩
      | own c => cases hh
      | arg c => cases hh
theorem key_of {K : PySem.W.Frag} {v : V} {d : D} {k : Key} (h : keyOf d = some k) (w : Dp K F v d) : v = kV k := by
  unfold keyOf at h
  split at h
  · cases h
    cases w
    rfl
  · cases h
    cases w
    rfl
  · cases h
theorem szG_len {acc : List (Key × List D)} (h : szG acc = true) : acc.length < sizeLine ∧ ∀ q ∈ acc, q.2.length < sizeLine := by
  unfold szG at h
  rw [Bool.and_eq_true] at h
  refine ⟨small_lt h.1, fun q hq => small_lt ?_⟩
  exact List.all_eq_true.mp h.2 q hq
end
end DL

set_option Elab.async false
set_option linter.all false
set_option maxRecDepth 100000
set_option autoImplicit false
namespace DL
open PySem PySem.Spec PyProof.Rows L2
variable [Tabs]
section
variable {X : Cx} {C : Cf} {iter tg ke ve : Expr} {kE vE : De} {ti : Di} {g : Dg} {ts : List Nat}
/-- one turn, once its target is stored -/
theorem grp_turn {G : Ct} {δ δ2 : DS} {σ : L2.St} {F H : Hp} {p : Addr} {j : Nat} {ws : List (Key × V)} {acc acc' : List (Key × List D)} {N : L2.St → Hp → Prop}
    (k : St1 G δ σ F H) (gr : Grp G F H p ws acc) (ej : σ[j]? = some (some (.ref p))) (nd : (acc.map Prod.fst).Nodup) (ht : grpT kE vE acc δ = .ok acc' δ2)
    (hN : ∀ (F' H' : Hp) (ws' : List (Key × V)), St1 G δ2 σ F' H' → Same F F' → noHeld δ2 = true → Grp G F' H' p ws' acc' → (acc'.map Prod.fst).Nodup → N σ H') :
    tBM G.K "list" rAppend (tDSetd (tVar j) (up G.C kE) (tLst tNil)) (tCons (up G.C vE) tNil) σ H (fun _ H' => N σ H') := by
  obtain ⟨kd, δ1, key, vd, e1, e2, e3, n0, n1, n2, sz, rfl⟩ := grpT_ok ht
  obtain ⟨sz1, sz2⟩ := szG_len sz
  refine ⟨.ref p, ej, p, rfl, .inl ⟨ws, .inl gr.d⟩, iso G.C F H, δ, F, rfl, k.iso n0, ?_⟩
  rw [e1]
  intro v F5 H5 k5 f5 w5
  have k6 := k.back n0 k5 n1
  have g5 := gr.keep f5 (iso_keep k5) (iso_fn k5)
  have ev : v = kV key := key_of e2 w5
  refine ⟨Nat.zero_le _, fun z hz => ?_⟩
  have fz := k6.newF hz
  have zz := k6.new0 hz
  have zp : z ≠ p := fun e => by rw [e, g5.d] at hz; cases hz
  have k7 : St1 G δ1 σ F5 (upd H5 z (.lst [])) := k6.newOwn hz
  have g6 : Grp G F5 (upd H5 z (.lst [])) p ws acc := g5.keep (Same.refl F5) (same_upd hz) fun b e => .inl e
  refine ⟨ws, key, g6.d, ev, by rw [grp_len g6.prs]; exact sz1, fun v hv => ?_, fun hv => ?_⟩
  · obtain ⟨a, vs, rfl, q2, q3, q4, q5, q6, q7, ⟨qq, q8, q8'⟩, _⟩ := grp_some (d := vd) g6.prs g6.nd nd hv
    refine ⟨.inl ⟨rfl, vs, SqL.of q2⟩, iso G.C F5 (upd H5 z (.lst [])), δ1, F5, rfl, k7.iso n1, ?_⟩
    rw [e3]
    intro u F8 H8 k8 f8 w8
    have k9 := k7.back n1 k8 n2
    have g8 := g6.keep f8 (iso_keep k8) (iso_fn k8)
    obtain ⟨a', vs', e', r2, r3, r4, r5, r6, r7, r8, r9⟩ := grp_some (d := vd) g8.prs g8.nd nd hv
    cases e'
    have evs : vs' = vs := by
      have := iso_keep k8 _ _ q2
      rw [r2] at this
      cases this
      rfl
    subst evs
    refine ⟨a, vs', u, rfl, rfl, r2, by rw [q8']; exact sz2 qq q8, ?_⟩
    refine hN F8 _ ws (k9.updFree n2 r3 r4) (f5.trans f8) n2 ⟨by rw [upd_ne (fun z => r5 z.symm)]; exact g8.d, g8.f, g8.z, ?_, g8.nd⟩ (putG_fst nd)
    unfold putG
    rw [if_pos r7]
    exact r9 u w8
  · have hf := grp_none hv
    have hput : putK ws key (.ref z) = ws ++ [(key, .ref z)] := by
      unfold putK
      rw [if_neg (by rw [hf]; exact Bool.false_ne_true)]
    have hacc : (acc.any fun q => decide (q.1 = key)) = false := by rw [grp_find g6.prs]; exact hf
    have hne : ∀ q ∈ acc, ¬q.1 = key := fun q hq e => by
      have := List.any_eq_false.mp hacc q hq
      rw [decide_eq_true e] at this
      exact this rfl
    have fresh : ∀ w ∈ ws, w.2 ≠ .ref z := fun w hw e => by
      obtain ⟨a, vs, h1, h2, _⟩ := grp_mem g5.prs w hw
      rw [h1] at e
      cases e
      rw [hz] at h2
      cases h2
    have pz : p ≠ z := fun e => zp e.symm
    have k8 : St1 G δ1 σ F5 (upd (upd H5 z (.lst [])) p (.dK (putK ws key (.ref z)))) := k7.updFree n1 g6.f g6.z
    have zat : (upd (upd H5 z (.lst [])) p (.dK (putK ws key (.ref z)))) z = some (.lst []) := by rw [upd_ne zp, upd_same]
    have g7 : Grp G F5 (upd (upd H5 z (.lst [])) p (.dK (putK ws key (.ref z)))) p (ws ++ [(key, .ref z)]) (acc ++ [(key, [])]) := by
      refine ⟨by rw [upd_same, hput], g6.f, g6.z, Paired.snoc (grp_updP g6.prs) ⟨rfl, z, [], rfl, zat, .nil, fz, zz, zp⟩, ?_⟩
      rw [List.map_append, List.nodup_append]
      refine ⟨g6.nd, by simp, fun x hx y hy e => ?_⟩
      obtain ⟨w, hw, rfl⟩ := List.mem_map.mp hx
      have hy : y = .ref z := by simpa using hy
      exact fresh w hw (e.trans hy)
    have nd7 : ((acc ++ [(key, ([] : List D))]).map Prod.fst).Nodup := by
      rw [List.map_append, List.nodup_append]
      refine ⟨nd, by simp, fun x hx y hy e => ?_⟩
      obtain ⟨q, hq, rfl⟩ := List.mem_map.mp hx
      have hy : y = key := by simpa using hy
      exact hne q hq (e.trans hy)
    have hv7 : valV (ws ++ [(key, V.ref z)]) key = some (.ref z) := by
      clear g7 g6 g5 gr k8 zat hput hf fresh
      induction ws with
      | nil => exact valV_pos rfl
      | cons w ws ih =>
        by_cases e : w.1 = key
        · rw [valV_pos e] at hv
          cases hv
        · rw [valV_neg e] at hv
          rw [List.cons_append, valV_neg e]
          exact ih hv
    refine ⟨.inl ⟨rfl, [], SqL.of zat⟩, iso G.C F5 _, δ1, F5, rfl, k8.iso n1, ?_⟩
    rw [e3]
    intro u F8 H8 k9 f8 w8
    have k10 := k8.back n1 k9 n2
    have g8 := g7.keep f8 (iso_keep k9) (iso_fn k9)
    obtain ⟨a', vs', e', r2, r3, r4, r5, r6, r7, r8, r9⟩ := grp_some (d := vd) g8.prs g8.nd nd7 hv7
    cases e'
    have evs : vs' = [] := by
      have := iso_keep k9 _ _ zat
      rw [r2] at this
      cases this
      rfl
    subst evs
    refine ⟨z, [], u, rfl, rfl, r2, by show 0 < sizeLine; exact Nat.lt_of_le_of_lt (Nat.zero_le _) sz1, ?_⟩
    refine hN F8 _ (ws ++ [(key, .ref z)]) (k10.updFree n2 r3 r4) (f5.trans f8) n2 ⟨by rw [upd_ne pz]; exact g8.d, g8.f, g8.z, ?_, g8.nd⟩ (putG_fst nd)
    have hp : putG acc key vd = (acc ++ [(key, ([] : List D))]).map fun q => if q.1 = key then (q.1, q.2 ++ [vd]) else q := by
      unfold putG
      rw [if_neg (by rw [hacc]; exact Bool.false_ne_true), List.map_append]
      have : acc.map (fun q => if q.1 = key then (q.1, q.2 ++ [vd]) else q) = acc := by
        conv => rhs; rw [← List.map_id acc]
        exact List.map_congr_left fun q hq => if_neg (hne q hq)
      rw [this]
      simp
    rw [hp]
    exact r9 u w8
end
end DL

set_option Elab.async false
set_option linter.all false
set_option maxRecDepth 100000
set_option autoImplicit false
namespace DL
open PySem PySem.Spec PyProof.Rows L2
variable [Tabs]
section
variable {X : Cx} {C : Cf} {iter tg ke ve : Expr} {kE vE : De} {ti : Di} {g : Dg} {ts : List Nat}
theorem pds_grp (j : Nat) {y : Str} {p1 p2 p3 p4 p5 p6 p7 p8 : Pos} (hp : PassesOwn (model X.prog X.w) X.A X.env X.xe) (hi : PI X tg iter (upI C ti)) (hg : PG X tg (upG C ts g)) (hk : PE X ke (up C kE)) (hv : PE X ve (up C vE)) (hjt : j ∉ ts := by decide)
    (hN : X.N[j]? = some y := by rfl) (hvis : Vis X.env.scope y := by first | exact Or.inl rfl | exact Or.inr (Or.inl rfl) | exact Or.inr (Or.inr rfl)) (hd : (y == ("__debug__" : Str)) = false := by decide) (hcd : (y == ("__classdict__" : Str)) = false := by decide)
    (m : M2 X (.Name y p1) "setdefault" p2 ke (.List [] p3) p4 := by exact ⟨by rfl, by rfl, by rfl, by rfl⟩)
    (hcall : ∀ (to te : TE), PE X (.Call (.Attribute (.Name y p1) "setdefault" p2) [ke, .List [] p3] [] p4) to → PE X ve te → PE X (.Call (.Attribute (.Call (.Attribute (.Name y p1) "setdefault" p2) [ke, .List [] p3] [] p4) "append" p5) [ve] [] p6) (tBM X.K "list" rAppend to (tCons te tNil)) := by
      exact fun _ _ h1 h2 => pe_bm PySem.F.plainAttrs_list PySem.F.slot_list_append PySem.F.type_list_append mt_append h1 (pa_cons h2 pa_nil))
    (hw : swapsWith (.Call (.Attribute (.Call (.Attribute (.Name y p1) "setdefault" p2) [ke, .List [] p3] [] p4) "append" p5) [ve] [] p6) none p7.line X.env = pure false := by rfl)
    (hc : X.calm = true := by rfl) (hs : ∀ x, foldedSetIterable iter X.env x = pure x := by intro _; rfl) (hK : C.K = X.K := by rfl) :
    PS X (.For tg iter [.Expr (.Call (.Attribute (.Call (.Attribute (.Name y p1) "setdefault" p2) [ke, .List [] p3] [] p4) "append" p5) [ve] [] p6) p7] [] p8) (ups C (dGrp j ti g kE vE)) := by
  refine ps_weak (ps_for hp hc hi hg (pss_one (ps_expr (hcall _ _ (pe_dsetd (pe_var hN hvis hd hcd) hk (pe_lst pa_nil) m) hv) hw)) hs) fun Dd σ H ⟨G, δ, F, hC, k, h⟩ => ?_
  subst hC
  obtain ⟨z0, h⟩ := okIf_finS h
  rw [Bool.and_eq_true] at z0
  obtain ⟨z1, n0⟩ := z0
  have ej := isDct0_some z1
  obtain ⟨p, o, sj, q1, q2, ⟨ws, rfl, q3⟩, q4, q5⟩ := k.sl j _ ej
  have hws : ws = [] := by
    cases q3
    rfl
  subst hws
  have k0 := k.hide ej
  cases e1 : ti (δ.set j .no) with
  | bad => rw [e1] at h; exact h.elim
  | ex c s => rw [e1] at h; exact h.elim
  | ok ds δ1 =>
    rw [e1] at h
    simp only at h
    cases e2 : grpL g kE vE ds [] δ1 with
    | bad => rw [e2] at h; exact h.elim
    | ex c s => rw [e2] at h; exact h.elim
    | ok accE δe =>
      rw [e2] at h
      simp only at h
      obtain ⟨z2, h⟩ := okIf_finS h
      rw [Bool.and_eq_true] at z2
      obtain ⟨n1, ne⟩ := z2
      refine ⟨iso G.C F H, δ.set j .no, F, rfl, k0.iso n0, ?_⟩
      rw [e1]
      intro J F1 H1 k1' g1 w1
      have w1 : ItOk G.K J F1 ds := w1
      have k1 := k0.back n0 k1' n1
      have gr0 : Grp G F H p [] [] := ⟨q1, q2, q5, .nil, List.nodup_nil⟩
      have gr1 := gr0.keep g1 (iso_keep k1') (iso_fn k1')
      refine ⟨fun i m σ' H' => m = ds.length - i ∧ i ≤ ds.length ∧ ∃ δ' F' ws acc, St1 G δ' σ' F' H' ∧ Same F1 F' ∧ noHeld δ' = true ∧ σ'[j]? = some (some (.ref p)) ∧ Grp G F' H' p ws acc ∧ (acc.map Prod.fst).Nodup ∧ grpL g kE vE (ds.drop i) acc δ' = .ok accE δe,
        ⟨ds.length, by simp, Nat.zero_le _, δ1, F1, [], [], k1, Same.refl F1, n1, sj, gr1, List.nodup_nil, e2⟩, ?_⟩
      rintro i m σ2 H2 ⟨rfl, hi, δ2, F2, ws, acc, k2, g2, n2, s2, gr2, nd2, e3⟩
      obtain ⟨wgo, wst⟩ := w1 F2 H2 g2 k2.fh i
      by_cases hlt : i < ds.length
      · right
        obtain ⟨go, yl⟩ := wgo ds[i] (List.getElem?_eq_getElem hlt)
        rw [List.drop_eq_getElem_cons hlt] at e3
        obtain ⟨δ3, acc', δ4, r1, r2, r3⟩ := grpL_cons e3
        obtain ⟨_, _, _, _, _, _, _, n3, _⟩ := grpT_ok r2
        refine ⟨go, fun σ' H' => ∃ δ' F' ws acc, St1 G δ' σ' F' H' ∧ Same F1 F' ∧ noHeld δ' = true ∧ σ'[j]? = some (some (.ref p)) ∧ Grp G F' H' p ws acc ∧ (acc.map Prod.fst).Nodup ∧ grpL g kE vE (ds.drop (i + 1)) acc δ' = .ok accE δe,
          fun σ' H' ⟨a1, a2, a3, a4, a5, a6, a7, a8, a9, a10, a11⟩ => ⟨ds.length - (i + 1), by omega, rfl, hlt, a1, a2, a3, a4, a5, a6, a7, a8, a9, a10, a11⟩, fun x H3 yy => ?_⟩
        obtain ⟨F3, f1, f2, f3, f4, w3⟩ := yl x H3 yy
        have k3 := grow_it k2 f1 f2 f3 f4
        have gr3 := gr2.keep f1 f3 f4
        refine ⟨iso G.C F3 H3, δ2, F3, ds[i], rfl, k3.iso n2, w3, ?_⟩
        rw [r1]
        intro σ4 F4 H4 k4' f' ag
        have k4 := k3.back n2 k4' n3
        have gr4 := gr3.keep f' (iso_keep k4') (iso_fn k4')
        have s4 : σ4[j]? = some (some (.ref p)) := by rw [ag.1 j hjt]; exact s2
        rw [← hK]
        exact grp_turn k4 gr4 s4 nd2 r2 fun F5 H5 ws5 k5 f5 n5 gr5 nd5 => ⟨δ4, F5, ws5, acc', k5, ((g2.trans f1).trans f').trans f5, n5, s4, gr5, nd5, r3⟩
      · left
        have e : i = ds.length := by omega
        subst e
        refine ⟨wst rfl, ?_⟩
        rw [List.drop_length] at e3
        cases e3
        obtain ⟨F', k', ff⟩ := grp_end k2 ne gr2 s2
        exact h σ2 F' H2 k' ((g1.trans g2).trans ff)
/-- {} -/
def dDct0 : De := fun δ => .ok (.own (.dct [])) δ
theorem pd_dct0 {pos : Pos} : PE X (.Dict [] [] pos) (up C dDct0) := pe_weak pe_dnewK fun σ H Q ⟨G, δ, F, hC, k, h⟩ => by
  subst hC
  intro p hp
  exact h (.ref p) F _ (k.newOwn hp) (Same.refl F) (k.valOwn hp ⟨[], rfl, .nil⟩)
end
end DL

set_option Elab.async false
set_option linter.all false
set_option maxRecDepth 100000
set_option autoImplicit false
namespace DL
open PySem PySem.Spec PyProof.Rows L2
variable [Tabs]
section
variable {X : Cx} {C : Cf} {e a b : Expr} {ta tb : De} {pos : Pos}
/-! ### sum, abs -/
def fSum : D → Option Vl
  | .list ds => (intsOf ds).map fun ns => .fz (.int ns.sum)
  | _ => none
theorem b_sum {K : PySem.W.Frag} : B1 K (rSum K) fSum := by
  intro G δ σ F H x d z Q hK k hx ez q
  subst hK
  cases d with
  | list ds =>
    obtain ⟨p, vs, rfl, h1, h2⟩ := hx.list k.fh
    have ez : (intsOf ds).map (fun ns => Vl.fz (.int ns.sum)) = some z := ez
    cases ei : intsOf ds with
    | none => rw [ei] at ez; cases ez
    | some ns =>
      rw [ei] at ez
      cases ez
      have := intsOf_some ei
      subst this
      rw [dpa_int_eq h2] at h1
      exact ⟨p, ns, rfl, SqL.of h1, q.fz k (.int _)⟩
  | _ => cases ez
theorem pd_sum {p : Pos} (hm : X.mg "sum" = none) (ha : PE X e (up C ta)) (hc : X.calm = true := by rfl) (hK : C.K = X.K := by rfl) (hcall : ∀ (r : List V → Hp → VK → Prop) (te : TE), X.mg "sum" = none → CallR X (.builtin "sum") r → PE X e te → PE X (.Call (.Name "sum" p) [e] [] pos) (tCB r (tCons te tNil)) := by exact fun _ _ hm0 h1 h2 => pe_callB h1 (by rfl) hm0 (by decide +kernel) (pa_cons h2 pa_nil)) :
    PE X (.Call (.Name "sum" p) [e] [] pos) (up C (dUn fSum ta)) := pe_weak (hcall _ _ hm (cr_sum hc) ha) (by rw [← hK]; exact rf_b1 b_sum)
def fAbs : D → Option Vl
  | .int i => some (.fz (.int (if i < 0 then -i else i)))
  | _ => none
theorem b_abs {K : PySem.W.Frag} : B1 K (fun xs H Q => ∃ i, xs = [.int i] ∧ Q (.int (if i < 0 then -i else i)) H) fAbs := by
  intro G δ σ F H x d z Q hK k hx ez q
  subst hK
  cases d with
  | int i =>
    have hx := hx.int
    subst hx
    cases ez
    exact ⟨i, rfl, q.fz k (.int _)⟩
  | _ => cases ez
theorem pd_abs {p : Pos} (hm : X.mg "abs" = none) (ha : PE X e (up C ta)) (hcall : ∀ (r : List V → Hp → VK → Prop) (te : TE), X.mg "abs" = none → CallR X (.builtin "abs") r → PE X e te → PE X (.Call (.Name "abs" p) [e] [] pos) (tCB r (tCons te tNil)) := by exact fun _ _ hm0 h1 h2 => pe_callB h1 (by rfl) hm0 (by decide +kernel) (pa_cons h2 pa_nil)) :
    PE X (.Call (.Name "abs" p) [e] [] pos) (up C (dUn fAbs ta)) := pe_weak (hcall _ _ hm call_abs ha) (rf_b1 b_abs)
/-! ### max(xs, default=n) -/
def mx0 (d : Int) : List Int → Int
  | [] => d
  | n :: ns => ns.foldl max n
def fMaxD : D → D → Option Vl
  | .list ds, .int d => (intsOf ds).map fun ns => .fz (.int (mx0 d ns))
  | _, _ => none
def rMaxD0 (K : PySem.W.Frag) : List V → List V → Hp → VK → Prop := fun vs zs H Q => ∃ (a : Addr) (ns : List Int) (d : Int), vs = [V.ref a] ∧ zs = [V.int d] ∧ SqL K H a (ns.map V.int) ∧ Q (.int (mx0 d ns)) H
theorem alike_all_ints (ns : List Int) : PySem.W.AlikeAll (ns.map PyData.int) := by
  have gx : ∀ x ∈ ns.map PyData.int, ∃ i, x = PyData.int i := fun x hx => by
    obtain ⟨i, _, rfl⟩ := List.mem_map.mp hx
    exact ⟨i, rfl⟩
  refine ⟨fun x hx y hy => ?_, fun x hx e => ?_⟩
  · obtain ⟨i, rfl⟩ := gx x hx
    obtain ⟨j, rfl⟩ := gx y hy
    rfl
  · obtain ⟨i, rfl⟩ := gx x hx
    cases e
theorem call_maxD (hc : X.calm = true) (hu : X.A.units + 64 < cLine) : CallRK X (.builtin "max") ["default"] (rMaxD0 X.K) := by
  intro pins s σ H xs zs us ws Q I r rz h
  obtain ⟨a, ns, d, rfl, rfl, hs, q⟩ := h
  obtain ⟨its, rv, hl, _⟩ := I.list hs
  rw [Vals.ref1 r]
  obtain ⟨u, rfl, t, rfl⟩ := vals1 rz
  obtain ⟨as, ra⟩ := L2.Dp.readsAll I (ns.map PyData.int) _ _ (dpa_ofInts ns) rv
  refine PySem.W.max_list_default (xs := ns.map PyData.int) (I.ok.hd hc) hl.isList ra (alike_all_ints ns) (by rw [PySem.W.depth_ints]; omega) (fun hz h' tk kp => ?_) fun y ys i v h' tk bs hy _ rd kp => ?_
  · have : ns = [] := by
      cases ns with
      | nil => rfl
      | cons n ns => cases hz
    subst this
    exact ⟨.int d, H, I.kept kp, ⟨t, rfl⟩, q⟩
  · cases ns with
    | nil => cases hy
    | cons n ns =>
      cases hy
      rw [PySem.W.maxD_ints] at rd
      cases rd
      exact ⟨.int _, H, I.kept kp, ⟨_, rfl⟩, q⟩
theorem up_imp {td : De} {σ : L2.St} {H : Hp} {Q Q' : VK} (h : up C td σ H Q) (w : ∀ v H, Q v H → Q' v H) : up C td σ H Q' := by
  obtain ⟨G, δ, F, hC, k, h⟩ := h
  refine ⟨G, δ, F, hC, k, ?_⟩
  cases e : td δ with
  | bad => rw [e] at h; exact h
  | ex c s => rw [e] at h; exact h
  | ok x δ1 =>
    rw [e] at h
    exact fun v F' H' k' f' w' => w _ _ (h v F' H' k' f' w')
theorem b_maxD {K : PySem.W.Frag} : B2 K (fun l H Q => ∃ x y, l = [x, y] ∧ rMaxD0 K [x] [y] H Q) fMaxD := by
  intro G δ σ F H x y d e z Q hK k hx hy ez q
  subst hK
  cases d with
  | list ds =>
    cases e with
    | int n =>
      have hy := hy.int
      subst hy
      obtain ⟨p, vs, rfl, h1, h2⟩ := hx.list k.fh
      have ez : (intsOf ds).map (fun ns => Vl.fz (.int (mx0 n ns))) = some z := ez
      cases ei : intsOf ds with
      | none => rw [ei] at ez; cases ez
      | some ns =>
        rw [ei] at ez
        cases ez
        have := intsOf_some ei
        subst this
        rw [dpa_int_eq h2] at h1
        exact ⟨_, _, rfl, p, ns, n, rfl, rfl, SqL.of h1, q.fz k (.int _)⟩
    | _ => cases ez
  | _ => cases e <;> cases ez
theorem pd_maxD {p kp : Pos} (hm : X.mg "max" = none) (hu : X.A.units + 64 < cLine) (ha : PE X a (up C ta)) (hb : PE X b (up C tb)) (hc : X.calm = true := by rfl) (hK : C.K = X.K := by rfl)
    (hcall : ∀ (r : List V → List V → Hp → VK → Prop) (te te' : TE), X.mg "max" = none → CallRK X (.builtin "max") ["default"] r → PE X a te → PE X b te' → PE X (.Call (.Name "max" p) [a] [⟨some "default", b, kp⟩] pos) (tCKw r (tCons te tNil) (tCons te' tNil)) := by
      exact fun _ _ _ hm0 h1 h2 h3 => pe_callBK h1 (by rfl) hm0 (by decide +kernel) (pa_cons h2 pa_nil) (pk_cons h3 pk_nil)) :
    PE X (.Call (.Name "max" p) [a] [⟨some "default", b, kp⟩] pos) (up C (dBin fMaxD ta tb)) := pe_weak (hcall _ _ _ hm (call_maxD hc hu) ha hb) fun σ H Q h => by
  have h := rf_b2 (C := C) (b_maxD (K := C.K)) σ H Q h
  refine up_imp h fun x H1 h => up_imp h fun y H2 h => ?_
  obtain ⟨x', y', e, h⟩ := h
  cases e
  rw [← hK]
  exact h
/-! ### zip of two lists -/
def zipD : List D → List D → List D
  | x :: xs, y :: ys => .tuple [x, y] :: zipD xs ys
  | _, _ => []
def zipOf (ds : List D) (δ : DS) : R (List D) := match ds with
  | [.list l, .list m] => .ok (zipD l m) δ
  | _ => .bad
def dZip (l : Dl) : Di := fun δ => (l δ).bind zipOf
theorem zipD_of : ∀ {l m : List D} {i : Nat} {d : D}, (zipD l m)[i]? = some d → ∃ x y, l[i]? = some x ∧ m[i]? = some y ∧ d = .tuple [x, y]
  | x :: l, y :: m, 0, d, h => ⟨x, y, rfl, rfl, (Option.some.inj h).symm⟩
  | x :: l, y :: m, i + 1, d, h => by
    obtain ⟨x', y', h1, h2, h3⟩ := zipD_of (l := l) (m := m) (i := i) (by simpa [zipD] using h)
    exact ⟨x', y', by simpa using h1, by simpa using h2, h3⟩
  | [], _, _, _, h => by simp [zipD] at h
  | _ :: _, [], _, _, h => by simp [zipD] at h
theorem zipD_len : ∀ (l m : List D), (zipD l m).length = min l.length m.length
  | x :: l, y :: m => by
    show (zipD l m).length + 1 = _
    rw [zipD_len l m, List.length_cons, List.length_cons]
    omega
  | [], m => by simp [zipD]
  | x :: l, [] => by simp [zipD]
theorem it_zip {K : PySem.W.Frag} {F : Hp} {p q : Addr} {vs us : List V} {ds es : List D} (h : F p = some (.lst vs)) (h' : F q = some (.lst us)) (w : DpAll K F vs ds) (w' : DpAll K F us es) : ItOk K (Itz K p q) F (zipD ds es) := fun F2 H2 f2 h2 i => by
  have hq : SqL K H2 p vs := SqL.of ((f2.trans h2) _ _ h)
  have hq' : SqL K H2 q us := SqL.of ((f2.trans h2) _ _ h')
  refine ⟨fun d hd => ?_, fun hi => ⟨vs, us, hq, hq', by rw [zipD_len] at hi; rw [dpa_len w, dpa_len w']; omega⟩⟩
  obtain ⟨x, y, hx, hy, rfl⟩ := zipD_of hd
  obtain ⟨v, e1, e2⟩ := dpa_get w hx
  obtain ⟨u, e3, e4⟩ := dpa_get w' hy
  refine ⟨⟨vs, us, v, u, hq, hq', e1, e3⟩, fun z H3 yy => ?_⟩
  obtain ⟨T, x', y', rfl, hT, rfl, y1, y2⟩ := yy
  have ex : v = x' := Option.some.inj (e1.symm.trans (y1 vs hq))
  have ey : u = y' := Option.some.inj (e3.symm.trans (y2 us hq'))
  subst ex ey
  have hF : F2 T = none := h2.free hT
  have ff := f2.trans (same_upd (o := HO.tup [v, u]) hF)
  refine ⟨upd F2 T (.tup [v, u]), same_upd hF, fun b o e => ?_, same_upd hT, fun b z => ?_, .tup upd_same (.cons (dp_mono ff _ _ e2) (.cons (dp_mono ff _ _ e4) .nil))⟩
  · by_cases hb : b = T
    · subst hb; rw [upd_same] at e ⊢; exact e
    · rw [upd_ne hb] at e ⊢; exact h2 _ _ e
  · by_cases hb : b = T
    · subst hb; exact .inr hT
    · rw [upd_ne hb] at z; exact .inl z
theorem zipOf_some {G : Ct} {ds : List D} {δ : DS} {σ : L2.St} {F : Hp} {R : It → Hp → Prop} (h : finA G (WI G) (zipOf ds δ) σ F R) : ∃ l m, ds = [.list l, .list m] ∧ finA G (WI G) (.ok (zipD l m) δ) σ F R := by
  unfold zipOf at h
  split at h
  · exact ⟨_, _, rfl, h⟩
  · exact h.elim
theorem pdi_zip {tl : Dl} {p pos tpos : Pos} {elts : List Expr} {kk : Nat} (hm : X.mg "zip" = none) (ha : PA X [a, b] (upL C tl)) (hg : Gl X "zip" := by rfl) (hK : C.K = X.K := by rfl) (hs : starEach [a, b] X.env = (false, eval a X.env) :: starEach [b] X.env := by rfl) (hpl : (backTo pos (starEach [b] X.env)).any (·.1) = false := by rfl) :
    PI X (.Tuple elts kk tpos) (.Call (.Name "zip" p) [a, b] [] pos) (upI C (dZip tl)) := by
  refine pi_weak (pi_zip hg hm ha hs hpl) fun σ H R ⟨G, δ, F, hC, k, h⟩ => ?_
  subst hC
  refine ⟨G, δ, F, rfl, k, finA_bind h fun ds δ1 vs F1 H1 k1 g1 w1 h1 => ?_⟩
  obtain ⟨l, m, rfl, h2⟩ := zipOf_some h1
  have w1 : DpAll G.K F1 vs [.list l, .list m] := w1
  cases w1 with
  | cons w ws =>
    cases ws with
    | cons w' ws =>
      cases ws
      cases w with
      | @lst p vs _ q0 q1 =>
        cases w' with
        | @lst p' vs' _ r0 r1 =>
          exact ⟨p, p', vs, vs', rfl, SqL.of (k1.fh _ _ q0), SqL.of (k1.fh _ _ r0), h2 _ F1 H1 k1 (Same.refl F1) (by rw [← hK]; exact it_zip q0 r0 q1 r1)⟩
end
end DL

set_option Elab.async false
set_option linter.all false
set_option maxRecDepth 100000
set_option autoImplicit false
namespace DL
open PySem PySem.Spec PyProof.Rows L2
variable [Tabs]
section
variable {X : Cx} {C : Cf} {e : Expr} {ta : De} {pos : Pos}
/-! ### xs.pop(i) of an own list -/
def popL (i : Nat) (j : Int) (δ : DS) : R Vl := match lstAt i δ with
  | some (s, ds) => match ixN ds.length j with
    | some m => match ds[m]? with
      | some d => okIf (decide (-1000000 ≤ j) && decide (j ≤ 1000000)) (.ok (.fz d) (δ.set i (s.with (.lst (ds.eraseIdx m)))))
      | none => .bad
    | none => .bad
  | none => .bad
def dPopAt (i : Nat) (a : De) : De := fun δ => okIf (isLst i δ) ((a δ).bind fun x δ1 => match x with
  | .fz (.int j) => popL i j δ1
  | _ => .bad)
theorem popL_fin {G : Ct} {i : Nat} {j : Int} {δ : DS} {σ : L2.St} {F : Hp} {Q : VK} (h : finA G (WV G σ) (popL i j δ) σ F Q) : ∃ s ds m d, δ[i]? = some s ∧ s.co = some (.lst ds) ∧ ixN ds.length j = some m ∧ ds[m]? = some d ∧ -1000000 ≤ j ∧ j ≤ 1000000 ∧ finA G (WV G σ) (.ok (.fz d) (δ.set i (s.with (.lst (ds.eraseIdx m))))) σ F Q := by
  unfold popL at h
  cases e : lstAt i δ with
  | none => rw [e] at h; exact h.elim
  | some q =>
    obtain ⟨s, ds⟩ := q
    rw [e] at h
    simp only at h
    obtain ⟨e1, e2⟩ := lstAt_some e
    cases e3 : ixN ds.length j with
    | none => rw [e3] at h; exact h.elim
    | some m =>
      rw [e3] at h
      simp only at h
      cases e4 : ds[m]? with
      | none => rw [e4] at h; exact h.elim
      | some d =>
        rw [e4] at h
        obtain ⟨z, h⟩ := okIf_fin h
        rw [Bool.and_eq_true] at z
        exact ⟨s, ds, m, d, e1, e2, e3, e4, of_decide_eq_true z.1, of_decide_eq_true z.2, h⟩
theorem seq_ixN {n m : Nat} {j : Int} (h : ixN n j = some m) : seqIndex? j n = some m := by
  unfold ixN at h
  unfold seqIndex?
  split at h
  · split at h
    · cases h
      rename_i h1 h2
      simp only [if_neg (show ¬j < 0 by omega), decide_eq_true h1, decide_eq_true h2]
      rfl
    · cases h
  · split at h
    · cases h
      rename_i h1 h2
      simp only [if_pos (show j < 0 by omega)]
      rw [decide_eq_true (show 0 ≤ j + (n : Int) by omega), decide_eq_true (show j + (n : Int) < n by omega)]
      simp
    · cases h
theorem pd_popAt (i : Nat) {x : Str} {p1 p2 p3 : Pos} (ha : PE X e (up C ta)) (hN : X.N[i]? = some x := by rfl) (hv : Vis X.env.scope x := by first | exact Or.inl rfl | exact Or.inr (Or.inl rfl) | exact Or.inr (Or.inr rfl)) (hd : (x == ("__debug__" : Str)) = false := by decide)
    (hcd : (x == ("__classdict__" : Str)) = false := by decide)
    (hcall : ∀ (to te : TE), PE X (.Name x p1) to → PE X e te → PE X (.Call (.Attribute (.Name x p1) "pop" p2) [e] [] p3) (tBM X.K "list" rPopAt to (tCons te tNil)) := by exact fun _ _ h1 h2 => pe_bm PySem.F.plainAttrs_list PySem.F.slot_list_pop PySem.F.type_list_pop mt_popAt h1 (pa_cons h2 pa_nil)) :
    PE X (.Call (.Attribute (.Name x p1) "pop" p2) [e] [] p3) (up C (dPopAt i ta)) := by
  refine pe_weak (hcall _ _ (pe_var hN hv hd hcd) ha) fun σ H Q ⟨G, δ, F, hC, k, h⟩ => ?_
  subst hC
  obtain ⟨z, h⟩ := okIf_fin h
  obtain ⟨p, vs, e1, e2⟩ := isLst_held k z
  refine ⟨.ref p, e1, .inl ⟨rfl, vs, SqL.of e2⟩, G, δ, F, rfl, k, finA_bind h fun y δ1 v F1 H1 k1 g1 w1 h1 => ?_⟩
  cases y with
  | loc _ => exact h1.elim
  | own _ => exact h1.elim
  | fz d =>
    cases d with
    | int j =>
      have w1 : Dp G.K F1 v (.int j) := w1
      cases w1
      obtain ⟨s, ds, m, d, q1, q2, q3, q4, q5, q6, h2⟩ := popL_fin h1
      obtain ⟨p', o, a1, a2, a3, vs', rfl, a4⟩ := k1.held q1 q2
      rw [e1] at a1
      cases a1
      obtain ⟨u, u1, u2⟩ := dpa_get a4 q4
      refine ⟨p, vs', j, m, u, rfl, rfl, a2, by omega, by omega, ?_, u1, h2 u F1 _ (k1.change q1 q2 e1 ⟨_, rfl, dpa_erase m a4⟩) (Same.refl F1) u2⟩
      rw [dpa_len a4]
      exact seq_ixN q3
    | _ => exact h1.elim
/-! ### xs.count(text) -/
def strsOf : List D → Option (List Str)
  | [] => some []
  | .str x :: ds => (strsOf ds).map (x :: ·)
  | _ => none
theorem strsOf_some : ∀ {ds : List D} {ys : List Str}, strsOf ds = some ys → ds = ys.map PyData.str
  | [], _, h => by cases h; rfl
  | .str x :: ds, ys, h => by
    have h : (strsOf ds).map (x :: ·) = some ys := h
    cases e : strsOf ds with
    | none => rw [e] at h; cases h
    | some zs =>
      rw [e] at h
      cases h
      rw [strsOf_some e]
      rfl
  | .none :: _, _, h => by cases h
  | .bool _ :: _, _, h => by cases h
  | .int _ :: _, _, h => by cases h
  | .list _ :: _, _, h => by cases h
  | .tuple _ :: _, _, h => by cases h
  | .dict _ :: _, _, h => by cases h
theorem strsOf_map (ys : List Str) : strsOf (ys.map PyData.str) = some ys := by
  induction ys with
  | nil => rfl
  | cons y ys ih =>
    show (strsOf (ys.map PyData.str)).map (y :: ·) = _
    rw [ih]
    rfl
theorem dpa_str_eq {K : PySem.W.Frag} {F : Hp} : ∀ {ys : List Str} {vs : List V}, DpAll K F vs (ys.map PyData.str) → vs = ys.map V.str
  | [], _, h => by cases h; rfl
  | y :: ys, _, h => by
    cases h with
    | cons a b =>
      cases a
      rw [dpa_str_eq b]
      rfl
def lstW (i : Nat) (δ : DS) : Option (List D) := match δ[i]? with
  | some (.own (.lst ds)) => some ds
  | some (.arg (.lst ds)) => some ds
  | some (.fz (.list ds)) => some ds
  | _ => none
theorem lstW_at {G : Ct} {i : Nat} {δ : DS} {σ : L2.St} {F H : Hp} {ds : List D} (k : St1 G δ σ F H) (h : lstW i δ = some ds) : ∃ p vs, σ[i]? = some (some (.ref p)) ∧ H p = some (.lst vs) ∧ DpAll G.K F vs ds := by
  unfold lstW at h
  cases e : δ[i]? with
  | none => rw [e] at h; cases h
  | some s =>
    rw [e] at h
    have z := k.sl i s e
    cases s with
    | no => cases h
    | fz d =>
      obtain ⟨v, e1, e2⟩ := z
      cases d with
      | list es =>
        cases h
        cases e2 with
        | lst a b => exact ⟨_, _, e1, k.fh _ _ a, b⟩
      | _ => cases h
    | own c =>
      cases c with
      | dct _ => cases h
      | lst es =>
        cases h
        obtain ⟨p, o, e1, e2, e3, ⟨vs, rfl, e4⟩, _⟩ := z
        exact ⟨p, vs, e1, e2, e4⟩
    | arg c =>
      cases c with
      | dct _ => cases h
      | lst es =>
        cases h
        obtain ⟨p, o, e1, e2, e3, ⟨vs, rfl, e4⟩, _⟩ := z
        exact ⟨p, vs, e1, e2, e4⟩
def cntL (i : Nat) (x : Str) (δ : DS) : R Vl := match lstW i δ with
  | some ds => match strsOf ds with
    | some ys => .ok (.fz (.int (ys.countP fun y => y == x : Nat))) δ
    | none => .bad
  | none => .bad
def dCntAt (i : Nat) (a : De) : De := fun δ => okIf (lstW i δ).isSome ((a δ).bind fun x δ1 => match x with
  | .fz (.str x) => cntL i x δ1
  | _ => .bad)
theorem cntL_fin {G : Ct} {i : Nat} {x : Str} {δ : DS} {σ : L2.St} {F : Hp} {Q : VK} (h : finA G (WV G σ) (cntL i x δ) σ F Q) : ∃ ds ys, lstW i δ = some ds ∧ strsOf ds = some ys ∧ finA G (WV G σ) (.ok (.fz (.int (ys.countP fun y => y == x : Nat))) δ) σ F Q := by
  unfold cntL at h
  cases e : lstW i δ with
  | none => rw [e] at h; exact h.elim
  | some ds =>
    rw [e] at h
    simp only at h
    cases e3 : strsOf ds with
    | none => rw [e3] at h; exact h.elim
    | some ys => rw [e3] at h; exact ⟨ds, ys, rfl, e3, h⟩
def rCntS (K : PySem.W.Frag) : V → List V → Hp → VK → Prop := fun x xs H Q => ∃ (p : Addr) (ys : List Str) (k : Str), x = .ref p ∧ xs = [.str k] ∧ SqL K H p (ys.map V.str) ∧ Q (.int (ys.countP fun y => y == k : Nat)) H
theorem count_strs (k : Str) : ∀ ys : List Str, PySem.Spec.countIn (.str k) (ys.map PyData.str) = ((ys.countP fun y => y == k : Nat) : Int)
  | [] => rfl
  | y :: ys => by
    rw [List.map_cons, PySem.Spec.countIn, count_strs k ys, List.countP_cons]
    simp only [PySem.Spec.same]
    rcases Bool.eq_false_or_eq_true (y == k) with hb | hb <;> simp only [hb, Bool.false_eq_true, if_true, if_false] <;> omega
theorem mt_cntS : MtR X "list.count" (rCntS X.K) := by
  intro pins s σ H x xs v us Q I rx rxs h
  obtain ⟨p, ys, k, rfl, rfl, hs, q⟩ := h
  cases rx
  obtain ⟨u, rfl, ru⟩ := rxs.one
  obtain ⟨t, rfl⟩ := ru
  obtain ⟨its, rv, hl, _⟩ := I.list hs
  refine PyProof.Rows.count_list_strs hl.isList (strs_of_vals rv) ⟨.int _, H, I.tok _, ⟨_, rfl⟩, ?_⟩
  rw [count_strs]
  exact q
theorem pd_cntAt (i : Nat) {x : Str} {p1 p2 p3 : Pos} (ha : PE X e (up C ta)) (hN : X.N[i]? = some x := by rfl) (hv : Vis X.env.scope x := by first | exact Or.inl rfl | exact Or.inr (Or.inl rfl) | exact Or.inr (Or.inr rfl)) (hd : (x == ("__debug__" : Str)) = false := by decide)
    (hcd : (x == ("__classdict__" : Str)) = false := by decide) (hK : C.K = X.K := by rfl)
    (hcall : ∀ (to te : TE), PE X (.Name x p1) to → PE X e te → PE X (.Call (.Attribute (.Name x p1) "count" p2) [e] [] p3) (tBM X.K "list" (rCntS X.K) to (tCons te tNil)) := by exact fun _ _ h1 h2 => pe_bm PySem.F.plainAttrs_list PySem.F.slot_list_count PySem.F.type_list_count mt_cntS h1 (pa_cons h2 pa_nil)) :
    PE X (.Call (.Attribute (.Name x p1) "count" p2) [e] [] p3) (up C (dCntAt i ta)) := by
  refine pe_weak (hcall _ _ (pe_var hN hv hd hcd) ha) fun σ H Q ⟨G, δ, F, hC, k, h⟩ => ?_
  subst hC
  obtain ⟨z, h⟩ := okIf_fin h
  obtain ⟨es, hes⟩ := Option.isSome_iff_exists.mp z
  obtain ⟨p, vs, e1, e2, _⟩ := lstW_at k hes
  refine ⟨.ref p, e1, .inl ⟨rfl, vs, SqL.of e2⟩, G, δ, F, rfl, k, finA_bind h fun y δ1 v F1 H1 k1 g1 w1 h1 => ?_⟩
  cases y with
  | loc _ => exact h1.elim
  | own _ => exact h1.elim
  | fz d =>
    cases d with
    | str j =>
      have w1 : Dp G.K F1 v (.str j) := w1
      cases w1
      obtain ⟨ds, ys, q1, q3, h2⟩ := cntL_fin h1
      obtain ⟨p', vs', a1, a2, a4⟩ := lstW_at k1 q1
      rw [e1] at a1
      cases a1
      have := strsOf_some q3
      subst this
      rw [dpa_str_eq a4] at a2
      exact ⟨p, ys, j, rfl, rfl, SqL.of a2, h2 _ F1 H1 k1 (Same.refl F1) (.int _)⟩
    | _ => exact h1.elim
end
end DL

set_option Elab.async false
set_option linter.all false
set_option maxRecDepth 100000
set_option autoImplicit false
/-! zip of lists or of tuples, reversed(list), xs[::-1] -/
namespace DL
open PySem PySem.Spec PyProof.Rows L2
variable [Tabs]
section
variable {X : Cx} {C : Cf} {a b e tg : Expr} {ta tb : De} {pos : Pos}
theorem it_zipT {K : PySem.W.Frag} {F : Hp} {p q : Addr} {vs us : List V} {ds es : List D} (h : F p = some (.tup vs)) (h' : F q = some (.tup us)) (w : DpAll K F vs ds) (w' : DpAll K F us es) : ItOk K (RZ.ItzT K p q) F (zipD ds es) := fun F2 H2 f2 h2 i => by
  have hq : SqT K H2 p vs := SqT.of ((f2.trans h2) _ _ h)
  have hq' : SqT K H2 q us := SqT.of ((f2.trans h2) _ _ h')
  refine ⟨fun d hd => ?_, fun hi => ⟨vs, us, hq, hq', by rw [zipD_len] at hi; rw [dpa_len w, dpa_len w']; omega⟩⟩
  obtain ⟨x, y, hx, hy, rfl⟩ := zipD_of hd
  obtain ⟨v, e1, e2⟩ := dpa_get w hx
  obtain ⟨u, e3, e4⟩ := dpa_get w' hy
  refine ⟨⟨vs, us, v, u, hq, hq', e1, e3⟩, fun z H3 yy => ?_⟩
  obtain ⟨T, x', y', rfl, hT, rfl, y1, y2⟩ := yy
  have ex : v = x' := Option.some.inj (e1.symm.trans (y1 vs hq))
  have ey : u = y' := Option.some.inj (e3.symm.trans (y2 us hq'))
  subst ex ey
  have hF : F2 T = none := h2.free hT
  have ff := f2.trans (same_upd (o := HO.tup [v, u]) hF)
  refine ⟨upd F2 T (.tup [v, u]), same_upd hF, fun b o e => ?_, same_upd hT, fun b z => ?_, .tup upd_same (.cons (dp_mono ff _ _ e2) (.cons (dp_mono ff _ _ e4) .nil))⟩
  · by_cases hb : b = T
    · subst hb; rw [upd_same] at e ⊢; exact e
    · rw [upd_ne hb] at e ⊢; exact h2 _ _ e
  · by_cases hb : b = T
    · subst hb; exact .inr hT
    · rw [upd_ne hb] at z; exact .inl z
def zipOfA (ds : List D) (δ : DS) : R (List D) := match ds with
  | [.list l, .list m] => .ok (zipD l m) δ
  | [.tuple l, .tuple m] => .ok (zipD l m) δ
  | _ => .bad
def dZipA (l : Dl) : Di := fun δ => (l δ).bind zipOfA
theorem zipOfA_some {G : Ct} {ds : List D} {δ : DS} {σ : L2.St} {F : Hp} {R : It → Hp → Prop} (h : finA G (WI G) (zipOfA ds δ) σ F R) : ∃ l m, (ds = [.list l, .list m] ∨ ds = [.tuple l, .tuple m]) ∧ finA G (WI G) (.ok (zipD l m) δ) σ F R := by
  unfold zipOfA at h
  split at h
  · exact ⟨_, _, .inl rfl, h⟩
  · exact ⟨_, _, .inr rfl, h⟩
  · exact h.elim
theorem pdi_zipA {tl : Dl} {p pos tpos : Pos} {elts : List Expr} {kk : Nat} (hm : X.mg "zip" = none) (ha : PA X [a, b] (upL C tl)) (hg : Gl X "zip" := by rfl) (hK : C.K = X.K := by rfl) (hs : starEach [a, b] X.env = (false, eval a X.env) :: starEach [b] X.env := by rfl) (hpl : (backTo pos (starEach [b] X.env)).any (·.1) = false := by rfl) :
    PI X (.Tuple elts kk tpos) (.Call (.Name "zip" p) [a, b] [] pos) (upI C (dZipA tl)) := by
  refine pi_weak (RZ.pi_zipA hg hm ha hs hpl) fun σ H R ⟨G, δ, F, hC, k, h⟩ => ?_
  subst hC
  refine ⟨G, δ, F, rfl, k, finA_bind h fun ds δ1 vs F1 H1 k1 g1 w1 h1 => ?_⟩
  obtain ⟨l, m, eds, h2⟩ := zipOfA_some h1
  have w1 : DpAll G.K F1 vs ds := w1
  rcases eds with rfl | rfl
  · cases w1 with
    | cons w ws =>
      cases ws with
      | cons w' ws =>
        cases ws
        cases w with
        | @lst p vs _ q0 q1 =>
          cases w' with
          | @lst p' vs' _ r0 r1 => exact ⟨p, p', vs, vs', rfl, .inl ⟨SqL.of (k1.fh _ _ q0), SqL.of (k1.fh _ _ r0), h2 _ F1 H1 k1 (Same.refl F1) (by rw [← hK]; exact it_zip q0 r0 q1 r1)⟩⟩
  · cases w1 with
    | cons w ws =>
      cases ws with
      | cons w' ws =>
        cases ws
        cases w with
        | @tup p vs _ q0 q1 =>
          cases w' with
          | @tup p' vs' _ r0 r1 => exact ⟨p, p', vs, vs', rfl, .inr ⟨SqT.of (k1.fh _ _ q0), SqT.of (k1.fh _ _ r0), h2 _ F1 H1 k1 (Same.refl F1) (by rw [← hK]; exact it_zipT q0 r0 q1 r1)⟩⟩
/-! ### reversed -/
theorem it_rev {K : PySem.W.Frag} {F : Hp} {p : Addr} {vs : List V} {ds : List D} (h : F p = some (.lst vs)) (w : DpAll K F vs ds) : ItOk K (Itv K p vs.length) F ds.reverse := fun F2 H2 f2 h2 i => by
  have hq : SqL K H2 p vs := SqL.of ((f2.trans h2) _ _ h)
  refine ⟨fun d hd => ?_, fun hi => by rw [List.length_reverse] at hi; show vs.length ≤ i; rw [dpa_len w]; exact Nat.le_of_eq hi.symm⟩
  have hi : i < ds.length := by
    have := (List.getElem?_eq_some_iff.mp hd).1
    rw [List.length_reverse] at this
    exact this
  rw [List.getElem?_reverse hi] at hd
  obtain ⟨v, e1, e2⟩ := dpa_get w hd
  rw [← dpa_len w] at e1 hi
  refine ⟨⟨hi, vs, v, hq, e1⟩, fun x H3 y => ?_⟩
  obtain ⟨rfl, y⟩ := y
  have ex : v = x := Option.some.inj (e1.symm.trans (y vs hq))
  subst ex
  exact ⟨F2, Same.refl F2, h2, Same.refl _, fun b z => .inl z, dp_mono f2 _ _ e2⟩
def revOf (ds : List D) (δ : DS) : R (List D) := match ds with
  | [.list l] => .ok l.reverse δ
  | _ => .bad
def dRevI (l : Dl) : Di := fun δ => (l δ).bind revOf
theorem pdi_rev {tl : Dl} {p pos : Pos} (hm : X.mg "reversed" = none) (ha : PA X [a] (upL C tl)) (hg : Gl X "reversed" := by rfl) (hK : C.K = X.K := by rfl) (hs : starEach [a] X.env = [(false, eval a X.env)] := by rfl) :
    PI X tg (.Call (.Name "reversed" p) [a] [] pos) (upI C (dRevI tl)) := by
  refine pi_weak (pi_reversed hg hm ha hs) fun σ H R ⟨G, δ, F, hC, k, h⟩ => ?_
  subst hC
  refine ⟨G, δ, F, rfl, k, finA_bind h fun ds δ1 vs F1 H1 k1 g1 w1 h1 => ?_⟩
  have w1 : DpAll G.K F1 vs ds := w1
  have h1 : finA G (WI G) (revOf ds δ1) σ F1 R := h1
  unfold revOf at h1
  split at h1
  · cases w1 with
    | cons w ws =>
      cases ws
      cases w with
      | @lst p vs _ q0 q1 => exact ⟨p, vs, rfl, SqL.of (k1.fh _ _ q0), h1 _ F1 H1 k1 (Same.refl F1) (by rw [← hK]; exact it_rev q0 q1)⟩
  · exact h1.elim
end
end DL

set_option Elab.async false
set_option linter.all false
set_option maxRecDepth 100000
set_option autoImplicit false
namespace DL
open PySem PySem.Spec L2
variable [Tabs]
/-! ### the data readings, step by step -/
def pick {α : Type} (b : Bool) (x y : α) : α := match b with
  | true => x
  | false => y
section
variable {δ δ1 δ2 δ3 δ4 δ' : DS} {a b c : De} {t u : Dt} {l : Dl} {s s' : Ds} {g : Dg} {gs : Dgs} {x y z : Vl} {d e : D} {ds es : List D} {i j : Nat} {k m : Bool} {o : Out} {co : Co}
theorem p_t {α : Type} {b : Bool} {x y r : α} (h : b = true) (q : x = r) : pick b x y = r := by subst h; exact q
theorem p_f {α : Type} {b : Bool} {x y r : α} (h : b = false) (q : y = r) : pick b x y = r := by subst h; exact q
theorem v_fz (h : δ[i]? = some (.fz d)) : dVar i δ = .ok (.fz d) δ := by unfold dVar; rw [h]
theorem v_own (h : δ[i]? = some (.own co)) : dVar i δ = .ok (.loc i) δ := by unfold dVar; rw [h]
theorem v_arg (h : δ[i]? = some (.arg co)) : dVar i δ = .ok (.loc i) δ := by unfold dVar; rw [h]
theorem r_c : dC d δ = .ok (.fz d) δ := rfl
theorem r_bin {f : D → D → Option Vl} (ha : a δ = .ok x δ1) (hb : b δ1 = .ok y δ2) (hx : vw δ2 (fzT x) = some d) (hy : vw δ2 (fzT y) = some e) (hf : f d e = some z) : dBin f a b δ = .ok z δ2 := by
  unfold dBin
  simp only [ha, hb, R.bind, hx, hy, lift2, hf, ret]
theorem r_un {f : D → Option Vl} (ha : a δ = .ok x δ1) (hx : vw δ1 (fzT x) = some d) (hf : f d = some z) : dUn f a δ = .ok z δ1 := by
  unfold dUn
  simp only [ha, R.bind, hx, lift1, hf, ret]
theorem r_test (ha : a δ = .ok (.fz (.bool k)) δ1) : dTest a δ = .ok k δ1 := by
  unfold dTest
  rw [ha]
  rfl
theorem r_andV {r : R Vl} (ha : a δ = .ok (.fz (.bool k)) δ1) (h : pick k (b δ1) (.ok (.fz (.bool false)) δ1) = r) : dAndV a b δ = r := by
  unfold dAndV
  rw [ha]
  exact h
theorem r_orV {r : R Vl} (ha : a δ = .ok (.fz (.bool k)) δ1) (h : pick k (.ok (.fz (.bool true)) δ1) (b δ1) = r) : dOrV a b δ = r := by
  unfold dOrV
  rw [ha]
  exact h
theorem r_andB (ha : a δ = .ok (.fz (.bool k)) δ1) (hb : b δ1 = .ok (.fz (.bool m)) δ1) : dAndV a b δ = .ok (.fz (.bool (k && m))) δ1 := r_andV ha (by cases k <;> first | exact hb | rfl)
theorem r_notV (ha : a δ = .ok (.fz (.bool k)) δ1) : dNotV a δ = .ok (.fz (.bool (!k))) δ1 := by
  unfold dNotV
  rw [ha]
  rfl
theorem r_and {r : R Bool} (ha : t δ = .ok k δ1) (h : pick k (u δ1) (.ok false δ1) = r) : dAnd t u δ = r := by
  unfold dAnd
  rw [ha]
  exact h
theorem r_or {r : R Bool} (ha : t δ = .ok k δ1) (h : pick k (.ok true δ1) (u δ1) = r) : dOr t u δ = r := by
  unfold dOr
  rw [ha]
  exact h
theorem r_not (ha : t δ = .ok k δ1) : dNot t δ = .ok (!k) δ1 := by
  unfold dNot
  rw [ha]
  rfl
theorem r_if {r : R Vl} (ha : t δ = .ok k δ1) (h : pick k (a δ1) (b δ1) = r) : dIf t a b δ = r := by
  unfold dIf
  rw [ha]
  exact h
theorem r_chain {f f' : D → D → Option Vl} {v : D} {w : Vl} {r : R Vl} (ha : a δ = .ok x δ1) (hb : b δ1 = .ok y δ2) (hx : vw δ2 (fzT x) = some d) (hy : vw δ2 (fzT y) = some e) (hf : f d e = some (.fz (.bool k)))
    (h : pick k ((c δ2).bind fun u δ5 => lift2 f' (vw δ5 (fzT y)) (vw δ5 (fzT u)) δ5) (.ok (.fz (.bool false)) δ2) = r) : dChain f f' a b c δ = r := by
  unfold dChain
  simp only [ha, hb, R.bind, hx, hy, lift2, hf, ret, asB]
  exact h
theorem r_chainB {f f' : D → D → Option Vl} {v : D} {w : D} (ha : a δ = .ok x δ1) (hb : b δ1 = .ok y δ2) (hx : vw δ2 (fzT x) = some d) (hy : vw δ2 (fzT y) = some e) (hf : f d e = some (.fz (.bool k))) (hc : c δ2 = .ok z δ3) (hy2 : vw δ3 (fzT y) = some v) (hz : vw δ3 (fzT z) = some w) (hf2 : f' v w = some (.fz (.bool m))) (hs : δ3 = δ2) : dChain f f' a b c δ = .ok (.fz (.bool (k && m))) δ3 := by
  subst hs
  unfold dChain
  simp only [ha, hb, R.bind, hx, hy, lift2, hf, ret, asB]
  cases k
  · rfl
  · simp only [hc, R.bind, hy2, hz, hf2]
    rfl
theorem r_ch2 {f' : D → D → Option Vl} (hc : c δ = .ok x δ1) (hx : vw δ1 (fzT y) = some d) (hy : vw δ1 (fzT x) = some e) (hf : f' d e = some z) : ((c δ).bind fun u δ5 => lift2 f' (vw δ5 (fzT y)) (vw δ5 (fzT u)) δ5) = .ok z δ1 := by
  simp only [hc, R.bind, hx, hy, lift2, hf, ret]
theorem l_nil : dNil δ = .ok [] δ := rfl
theorem l_cons (ha : a δ = .ok x δ1) (hk : kp x δ1 = .ok d δ2) (hl : l δ2 = .ok ds δ3) : dCons a l δ = .ok (d :: ds) δ3 := by
  unfold dCons
  simp only [ha, R.bind, hk, hl]
theorem r_tup (hl : l δ = .ok ds δ1) (hs : small ds.length = true) : dTup l δ = .ok (.fz (.tuple ds)) δ1 := by
  unfold dTup
  simp only [hl, R.bind, hs, okIf]
theorem r_lst (hl : l δ = .ok ds δ1) (hs : small ds.length = true) : dLst l δ = .ok (.own (.lst ds)) δ1 := by
  unfold dLst
  simp only [hl, R.bind, hs, okIf]
theorem o_some {v : Int} (ha : a δ = .ok (.fz (.int v)) δ1) : oSome a δ = .ok (some v) δ1 := by
  unfold oSome
  rw [ha]
  rfl
theorem o_none : oNone δ = .ok none δ := rfl
theorem r_sl {p q : Dopt} {v w : Option Int} (ha : a δ = .ok x δ1) (hp : p δ1 = .ok v δ2) (hq : q δ2 = .ok w δ3) (hx : vw δ3 (fzT x) = some d) (hf : fSl d v w = some z) : dSl a p q δ = .ok z δ3 := by
  unfold dSl
  simp only [ha, hp, hq, R.bind, hx, liftS, hf, ret]
variable {al : Da} {ams : List Am} {den : List Sl → R Vl}
theorem a_nil : aNil δ = .ok [] δ := rfl
theorem a_val (ha : a δ = .ok x δ1) (hk : kp x δ1 = .ok d δ2) (hl : al δ2 = .ok ams δ3) : aVal a al δ = .ok (.fz d :: ams) δ3 := by
  unfold aVal
  simp only [ha, R.bind, hk, hl]
theorem a_ref (hk : known i δ = true) (hl : al δ = .ok ams δ3) : aRef i al δ = .ok (.ref i :: ams) δ3 := by
  unfold aRef
  simp only [hk, okIf, hl, R.bind]
theorem r_call (ha : al δ = .ok ams δ1) (h1 : refPos δ1 ams = none) (h2 : (refOne δ1 ams && ams.all (amKnown δ1)) = true) (hd : den (ams.map (amSl δ1)) = .ok z δ') : dCall den al δ = .ok z δ1 := by
  unfold dCall
  simp only [ha, R.bind, h2, okIf, callM, hd, putBack, h1]
variable {r : R Out}
theorem s_skip : dSkip δ = .ok .nx δ := rfl
theorem s_seq (h : s δ = .ok .nx δ1) (q : s' δ1 = r) : dSeq s s' δ = r := by
  unfold dSeq
  rw [h]
  exact q
theorem s_seqR {v : Vl} (h : s δ = .ok (.rt v) δ1) : dSeq s s' δ = .ok (.rt v) δ1 := by
  unfold dSeq
  rw [h]
theorem s_ret (ha : a δ = .ok x δ1) : dRet a δ = .ok (.rt x) δ1 := by
  unfold dRet
  rw [ha]
  rfl
theorem s_if (ht : t δ = .ok k δ1) (h : pick k (s δ1) (s' δ1) = r) : dIfS t s s' δ = r := by
  unfold dIfS
  rw [ht]
  exact h
theorem s_drop (ha : a δ = .ok x δ1) : dDrop a δ = .ok .nx δ1 := by
  unfold dDrop
  rw [ha]
  rfl
theorem s_asg (ha : a δ = .ok x δ1) (h : setS i x δ1 = r) : dAsg i a δ = r := by
  unfold dAsg
  rw [ha]
  exact h
theorem set_fz (h : okSet δ i = true) (hs : δ.set i (.fz d) = δ') : setS i (.fz d) δ = .ok .nx δ' := by
  subst hs
  unfold setS
  rw [h]
  rfl
theorem set_own (h : okSet δ i = true) (hs : δ.set i (.own co) = δ') : setS i (.own co) δ = .ok .nx δ' := by
  subst hs
  unfold setS
  rw [h]
  rfl
theorem s_asgG (ha : a δ = .ok x δ1) (hk : kp x δ1 = .ok d δ2) (h : g d δ2 = .ok .nx δ3) : dAsgG g a δ = .ok .nx δ3 := by
  unfold dAsgG
  simp only [ha, R.bind, hk, h, onlyNx]
theorem g_n (h : setS i (.fz d) δ = r) : gN i d δ = r := h
theorem g_nil : gsNil [] δ = .ok .nx δ := rfl
theorem g_cons (h : g d δ = .ok .nx δ1) (q : gs ds δ1 = r) : gsCons g gs (d :: ds) δ = r := by
  unfold gsCons
  simp only [h]
  exact q
theorem g_tup {n : Nat} (hn : (ds.length == n) = true) (h : gs ds δ = r) : gTupD n gs (.tuple ds) δ = r := by
  unfold gTupD
  simp only [hn]
  exact h
theorem g_lst {n : Nat} (hn : (ds.length == n) = true) (h : gs ds δ = r) : gTupD n gs (.list ds) δ = r := by
  unfold gTupD
  simp only [hn]
  exact h
theorem s_par (hl : l δ = .ok [d, e] δ1) (h : (okSet δ1 i && okSet δ1 j) = true) (hs : (δ1.set i (.fz d)).set j (.fz e) = δ') : dPar i j l δ = .ok .nx δ' := by
  subst hs
  unfold dPar
  simp only [hl, R.bind, h, okIf]
theorem run_rt {np n : Nat} {as : List Sl} {v : Vl} (h0 : (as.length == np && as.all isIn) = true) {δ0 : DS} (hz : as ++ List.replicate (n - np) .no = δ0) (h : s δ0 = .ok (.rt v) δ) (hv : retV v δ = .ok x δ1) (ht : trim as δ1 = δ2) : noEx as (runDef np n s as) = .ok x δ2 := by
  subst ht hz
  unfold runDef
  simp only [h0, h, endOf, hv, noEx]
theorem run_nx {np n : Nat} {as : List Sl} (h0 : (as.length == np && as.all isIn) = true) {δ0 : DS} (hz : as ++ List.replicate (n - np) .no = δ0) (h : s δ0 = .ok .nx δ) (ht : trim as δ = δ2) : noEx as (runDef np n s as) = .ok (.fz .none) δ2 := by
  subst ht hz
  unfold runDef
  simp only [h0, h, endOf, noEx]
end
theorem run_b {np n : Nat} {as : List Sl} {s : Ds} {δ δ2 : DS} {b k : Bool} (h0 : (as.length == np && as.all isIn) = true) {δ0 : DS} (hz : as ++ List.replicate (n - np) .no = δ0) (h : s δ0 = .ok (.rt (.fz (.bool b))) δ) (hv : b = k) (ht : trim as δ = δ2) : noEx as (runDef np n s as) = .ok (.fz (.bool k)) δ2 := by
  subst hv
  exact run_rt h0 hz h rfl ht
theorem run_v {np n : Nat} {as : List Sl} {s : Ds} {δ δ2 : DS} {d e : D} (h0 : (as.length == np && as.all isIn) = true) {δ0 : DS} (hz : as ++ List.replicate (n - np) .no = δ0) (h : s δ0 = .ok (.rt (.fz d)) δ) (hv : d = e) (ht : trim as δ = δ2) : noEx as (runDef np n s as) = .ok (.fz e) δ2 := by
  subst hv
  exact run_rt h0 hz h rfl ht
theorem run_o {np n : Nat} {as : List Sl} {s : Ds} {δ δ2 : DS} {d e : Co} (h0 : (as.length == np && as.all isIn) = true) {δ0 : DS} (hz : as ++ List.replicate (n - np) .no = δ0) (h : s δ0 = .ok (.rt (.own d)) δ) (hv : d = e) (ht : trim as δ = δ2) : noEx as (runDef np n s as) = .ok (.own e) δ2 := by
  subst hv
  exact run_rt h0 hz h rfl ht
/-! ### loops -/
def lastSl (s : Sl) : List D → Sl
  | [] => s
  | d :: ds => lastSl (.fz d) ds
theorem lastSl_free : ∀ (ds : List D) (s : Sl), s.held = false → (lastSl s ds).held = false
  | [], _, h => h
  | d :: ds, s, _ => lastSl_free ds (.fz d) rfl
theorem set_same {δ : DS} {i : Nat} {s : Sl} (h : δ[i]? = some s) : δ.set i s = δ := by
  obtain ⟨h1, h2⟩ := List.getElem?_eq_some_iff.mp h
  subst h2
  exact List.set_getElem_self h1
theorem okSet_fz {δ : DS} {i : Nat} {d : D} (h : okSet δ i = true) (e : D) : okSet (δ.set i (.fz d)) i = true := okSet_set h
theorem for_keep {i : Nat} {body : Ds} : ∀ (ds : List D) (δ : DS) (s : Sl), δ[i]? = some s → okSet δ i = true → (∀ d ∈ ds, body (δ.set i (.fz d)) = .ok .nx (δ.set i (.fz d))) → forL (stepB (gN i) body) ds δ = .ok .nx (δ.set i (lastSl s ds))
  | [], δ, s, h, _, _ => by
    show R.ok Out.nx δ = _
    rw [show lastSl s [] = s from rfl, set_same h]
  | d :: ds, δ, s, h, ho, hb => by
    have e1 : stepB (gN i) body d δ = .ok .nx (δ.set i (.fz d)) := by
      unfold stepB
      rw [show gN i d δ = .ok .nx (δ.set i (.fz d)) from set_fz ho rfl]
      exact hb d List.mem_cons_self
    have hi := (List.getElem?_eq_some_iff.mp h).1
    have e2 := for_keep (i := i) (body := body) ds (δ.set i (.fz d)) (.fz d) (List.getElem?_set_self hi) (okSet_set ho) fun e he => by
      rw [List.set_set]
      exact hb e (List.mem_cons_of_mem _ he)
    show (match stepB (gN i) body d δ with
      | .ok .nx δ1 => forL (stepB (gN i) body) ds δ1
      | .ok .ct δ1 => forL (stepB (gN i) body) ds δ1
      | .ok .bk δ1 => .ok .nx δ1
      | r => r) = _
    rw [e1]
    simp only
    rw [e2, List.set_set]
    rfl
theorem s_for {ti : Di} {g : Dg} {body : Ds} {δ δ1 : DS} {ds : List D} {r : R Out} (hi : ti δ = .ok ds δ1) (hf : forL (stepB g body) ds δ1 = r) : dFor ti g body δ = r := by
  unfold dFor
  rw [hi]
  exact hf
theorem i_it {a : De} {δ δ1 δ2 δ3 : DS} {x : Vl} {d : D} {ds : List D} (ha : a δ = .ok x δ1) (hk : kp x δ1 = .ok d δ2) (h : itemsOf d δ2 = .ok ds δ3) : dIter a δ = .ok ds δ3 := by
  unfold dIter
  simp only [ha, R.bind, hk, h]
theorem i_r1 {l : Dl} {δ δ1 : DS} {n : Int} (hl : l δ = .ok [.int n] δ1) (h1 : -1000000 ≤ n) (h2 : n ≤ 1000000) : dRange1 l δ = .ok ((List.range n.toNat).map fun (i : Nat) => PyData.int i) δ1 := by
  unfold dRange1
  simp only [hl, R.bind, h1, h2, decide_true, Bool.and_self, okIf]
/-- a comprehension of one clause that changes no list -/
theorem comp_map {α : Type} {f : D → DS → R (Option D)} {δ : DS} {enc : α → D} {φ : α → Option D} : ∀ xs : List α, (∀ x ∈ xs, f (enc x) δ = .ok (φ x) δ) → compL f (xs.map enc) δ = .ok (xs.filterMap φ) δ
  | [], _ => rfl
  | x :: xs, h => by
    have e1 := h x List.mem_cons_self
    have e2 := comp_map (φ := φ) xs fun y hy => h y (List.mem_cons_of_mem _ hy)
    rw [List.map_cons]
    unfold compL
    rw [e1]
    simp only
    rw [e2]
    simp only [List.filterMap_cons]
    cases φ x <;> rfl
theorem comp_map1 {α : Type} {f : D → DS → R (Option D)} {δ : DS} {enc ψ : α → D} {xs : List α} (h : ∀ x ∈ xs, f (enc x) δ = .ok (some (ψ x)) δ) : compL f (xs.map enc) δ = .ok (xs.map ψ) δ := by
  rw [comp_map (φ := fun x => some (ψ x)) xs h]
  congr 1
  induction xs with
  | nil => rfl
  | cons x xs ih => simp [ih fun y hy => h y (List.mem_cons_of_mem _ hy)]
theorem turn_1 {vs : List Nat} {g : Dg} {tt : Dt} {te : De} {d : D} {δ δ2 δ4 δ3 : DS} {k : Bool} {o : Option D} {δ0 : DS} (hw : wipeD (δ.map toArg) vs = δ0) (hg : g d δ0 = .ok .nx δ2) (ht : tt δ2 = .ok k δ3) (he : pick k ((te δ3).bind fun x δ4 => (kp x δ4).bind fun d δ5 => .ok (some d) δ5) (.ok none δ3) = .ok o δ4) (hb : back δ δ4 = δ) : turnL vs g tt te d δ = .ok o δ := by
  subst hw
  unfold turnL onTurn
  simp only [hg, ht]
  cases k with
  | false =>
    have he : (R.ok none δ3 : R (Option D)) = .ok o δ4 := he
    cases he
    simp only [R.bind, backR, hb]
  | true =>
    have he : ((te δ3).bind fun x δ4 => (kp x δ4).bind fun d δ5 => R.ok (some d) δ5) = .ok o δ4 := he
    show backR δ ((te δ3).bind fun x δ4 => (kp x δ4).bind fun d δ5 => R.ok (some d) δ5) = _
    rw [he]
    simp only [backR, hb]
theorem turn_e {te : De} {δ δ1 δ2 : DS} {x : Vl} {d : D} (he : te δ = .ok x δ1) (hk : kp x δ1 = .ok d δ2) : ((te δ).bind fun x δ4 => (kp x δ4).bind fun d δ5 => R.ok (some d) δ5) = .ok (some d) δ2 := by
  simp only [he, R.bind, hk]
theorem r_lc {vs : List Nat} {ti : Di} {g : Dg} {tt : Dt} {te : De} {δ δ1 δ2 : DS} {ds l : List D} (hi : ti δ = .ok ds δ1) (h0 : (small ds.length && freeAt vs δ1) = true) (h : compL (turnL vs g tt te) ds δ1 = .ok l δ2) : dLc vs ti g tt te δ = .ok (.own (.lst l)) δ2 := by
  unfold dLc
  simp only [hi, R.bind, h0, okIf, h]
theorem t_yes {δ : DS} : dYes δ = .ok true δ := rfl
/-- a comprehension of two clauses that changes no list -/
theorem comp_flat {α : Type} {f : D → DS → R (List D)} {δ : DS} {enc : α → D} {φ : α → List D} : ∀ xs : List α, (∀ x ∈ xs, f (enc x) δ = .ok (φ x) δ) → compLL f (xs.map enc) δ = .ok (xs.flatMap φ) δ
  | [], _ => rfl
  | x :: xs, h => by
    have e1 := h x List.mem_cons_self
    have e2 := comp_flat (φ := φ) xs fun y hy => h y (List.mem_cons_of_mem _ hy)
    rw [List.map_cons]
    unfold compLL
    rw [e1]
    simp only
    rw [e2]
    rfl
theorem turn_2 {vs vs1 : List Nat} {g g1 : Dg} {tt tt1 : Dt} {ti1 : Di} {te : De} {d : D} {δ δ2 δ3 δ4 δ7 : DS} {ds1 l : List D} {δ0 : DS} (hw : wipeD (δ.map toArg) vs = δ0) (hg : g d δ0 = .ok .nx δ2) (ht : tt δ2 = .ok true δ3) (hi : ti1 δ3 = .ok ds1 δ4) {δ5 : DS} (hy : back2 δ δ4 = δ5) (hf : freeAt vs1 δ5 = true)
    (hc : compL (turnL vs1 g1 tt1 te) ds1 δ5 = .ok l δ7) (hr : restD δ δ7 = δ) : oneTurn2 vs vs1 g tt ti1 g1 tt1 te d δ = .ok l δ := by
  subst hw hy
  unfold oneTurn2
  simp only [hg, ht, hi, hf, hc, hr]
theorem r_lc2 {vs vs1 : List Nat} {ti ti1 : Di} {g g1 : Dg} {tt tt1 : Dt} {te : De} {δ δ1 δ2 : DS} {ds l : List D} (hi : ti δ = .ok ds δ1) (h0 : freeAt vs δ1 = true) (h : compLL (oneTurn2 vs vs1 g tt ti1 g1 tt1 te) ds δ1 = .ok l δ2) (hs : small l.length = true) : dLc2 vs vs1 ti g tt ti1 g1 tt1 te δ = .ok (.own (.lst l)) δ2 := by
  unfold dLc2
  simp only [hi, R.bind, h0, okIf, h, hs]
theorem i_enumT {l : Dl} {δ δ1 : DS} {ds : List D} (hl : l δ = .ok [.tuple ds] δ1) : dEnum l δ = .ok (enumD ds) δ1 := by
  unfold dEnum
  rw [hl]
  rfl
theorem enumD_map {α : Type} (enc : α → D) (xs : List α) : enumD (xs.map enc) = ((List.range xs.length).zip xs).map fun q => PyData.tuple [.int (q.1 : Nat), enc q.2] := by
  unfold enumD
  rw [List.length_map, List.zipWith_map_right, List.zip, List.map_zipWith]
theorem comp2 {f : D → DS → R (Option D)} {d1 d2 : D} {o1 o2 : Option D} {δ : DS} (h1 : f d1 δ = .ok o1 δ) (h2 : f d2 δ = .ok o2 δ) {l : List D} (hl : o1.toList ++ (o2.toList ++ []) = l) : compL f [d1, d2] δ = .ok l δ := by
  subst hl
  unfold compL
  rw [h1]
  simp only
  unfold compL
  rw [h2]
  rfl
/-- a turn with a test -/
theorem turn_c {vs : List Nat} {g : Dg} {tt : Dt} {te : De} {d y : D} {δ δ2 δ3 δ4 δ5 : DS} {k : Bool} {x : Vl} {δ0 : DS} (hw : wipeD (δ.map toArg) vs = δ0) (hg : g d δ0 = .ok .nx δ2) (ht : tt δ2 = .ok k δ3) (he : te δ3 = .ok x δ4) (hk : kp x δ4 = .ok y δ5) (hb : back δ δ5 = δ) (hb3 : back δ δ3 = δ) : turnL vs g tt te d δ = .ok (if k = true then some y else none) δ := by
  cases k with
  | false => exact turn_1 hw hg ht rfl hb3
  | true => exact turn_1 hw hg ht (turn_e he hk) hb
theorem f_addT {xs ys : List D} (h : small (xs.length + ys.length) = true) : fAdd (.tuple xs) (.tuple ys) = some (.fz (.tuple (xs ++ ys))) := by
  unfold fAdd
  simp only [h, okO]
theorem f_addL {xs ys : List D} (h : small (xs.length + ys.length) = true) : fAdd (.list xs) (.list ys) = some (.own (.lst (xs ++ ys))) := by
  unfold fAdd
  simp only [h, okO]
theorem atI_nat {α : Type} {xs : List α} {n : Nat} {x : α} (h : xs[n]? = some x) : atI xs (n : Int) = some x := by
  have hn := (List.getElem?_eq_some_iff.mp h).1
  unfold atI ixN
  rw [if_pos (by omega), if_pos (by omega)]
  simpa using h
theorem f_ixT {xs : List D} {n : Nat} {d : D} (h : xs[n]? = some d) : fIx (.tuple xs) (.int (n : Nat)) = some (.fz d) := by
  show (atI xs (n : Int)).map Vl.fz = _
  rw [atI_nat h]
  rfl
theorem f_ixL {xs : List D} {n : Nat} {d : D} (h : xs[n]? = some d) : fIx (.list xs) (.int (n : Nat)) = some (.fz d) := by
  show (atI xs (n : Int)).map Vl.fz = _
  rw [atI_nat h]
  rfl
theorem f_eq {d e : D} (h1 : SeqAt.shaped d = true) (h2 : SeqAt.shaped e = true) : fEq d e = some (.fz (.bool (PyData.eqv d e))) := by
  unfold fEq
  rw [h1, h2]
  rfl
theorem f_ne {d e : D} (h1 : SeqAt.shaped d = true) (h2 : SeqAt.shaped e = true) : fNe d e = some (.fz (.bool (!PyData.eqv d e))) := by
  unfold fNe
  rw [h1, h2]
  rfl
theorem shaped_ch {c : Nat} (h : c ≤ 127) : SeqAt.shaped (.str ⟨#[c]⟩) = true := by
  have e : PyData.canLay0 (.str ⟨#[c]⟩) = true := by
    simp [PyData.canLay0, PyData.strOk]
    omega
  unfold SeqAt.shaped
  rw [e]
  rfl
theorem r_callR {den : List Sl → R Vl} {al : Da} {ams : List Am} {δ δ1 δ2 rest : DS} {i : Nat} {sl : Sl} {z : Vl} {co : Co} (hl : al δ = .ok ams δ1) (hk : known i δ = true) (h2 : (refOne δ1 (.ref i :: ams) && (Am.ref i :: ams).all (amKnown δ1)) = true) (h1 : refPos δ1 (.ref i :: ams) = some (0, i)) (hs : δ1[i]? = some sl)
    (hd : den ((Am.ref i :: ams).map (amSl δ1)) = .ok z (.arg co :: rest)) (hδ : δ1.set i (sl.with co) = δ2) : dCall den (aRef i al) δ = .ok z δ2 := by
  subst hδ
  unfold dCall
  rw [a_ref hk hl]
  simp only [R.bind, h2, okIf, callM, hd, putBack, h1, hs]
  rfl
theorem s_setI {i : Nat} {a b : De} {δ δ1 δ2 δ3 : DS} {x : Vl} {d : D} {j : Int} {r : R Out} (ha : a δ = .ok x δ1) (hk : kp x δ1 = .ok d δ2) (h1 : isLst i δ2 = true) (hb : b δ2 = .ok (.fz (.int j)) δ3) (hm : mutL i (fSet j d) δ3 = r) : dSetI i b a δ = r := by
  unfold dSetI
  simp only [ha, R.bind, hk, h1, okIf, hb, asInt]
  exact hm
theorem s_app {i : Nat} {a : De} {δ δ1 δ2 : DS} {x : Vl} {d : D} {r : R Out} (h1 : isLst i δ = true) (ha : a δ = .ok x δ1) (hk : kp x δ1 = .ok d δ2) (hm : mutL i (fApp d) δ2 = r) : dApp i a δ = r := by
  unfold dApp
  simp only [ha, R.bind, hk, h1, okIf]
  exact hm
theorem s_ext {i : Nat} {a : De} {δ δ1 δ2 : DS} {x : Vl} {es : List D} {r : R Out} (h1 : isLst i δ = true) (ha : a δ = .ok x δ1) (hk : kp x δ1 = .ok (.list es) δ2) (hm : mutL i (fExt es) δ2 = r) : dExt i a δ = r := by
  unfold dExt
  simp only [ha, R.bind, hk, h1, okIf, extD]
  exact hm
theorem m_arg {i : Nat} {f : List D → Option (List D)} {δ δ' : DS} {ds l : List D} (h1 : δ[i]? = some (.arg (.lst ds))) (h2 : f ds = some l) (hs : δ.set i (.arg (.lst l)) = δ') : mutL i f δ = .ok .nx δ' := by
  subst hs
  unfold mutL lstAt
  simp only [h1, h2]
  rfl
theorem m_own {i : Nat} {f : List D → Option (List D)} {δ δ' : DS} {ds l : List D} (h1 : δ[i]? = some (.own (.lst ds))) (h2 : f ds = some l) (hs : δ.set i (.own (.lst l)) = δ') : mutL i f δ = .ok .nx δ' := by
  subst hs
  unfold mutL lstAt
  simp only [h1, h2]
  rfl
theorem f_set {j : Int} {d : D} {ds l : List D} {m : Nat} (h : ixN ds.length j = some m) (hs : ds.set m d = l) : fSet j d ds = some l := by
  unfold fSet
  rw [h, ← hs]
  rfl
theorem f_app {d : D} {ds : List D} (h : small ds.length = true) : fApp d ds = some (ds ++ [d]) := by
  unfold fApp
  rw [h]
  rfl
theorem f_ext {es ds : List D} (h : small (ds.length + es.length) = true) : fExt es ds = some (ds ++ es) := by
  unfold fExt
  rw [h]
  rfl
theorem f_mod {i j : Int} (h : 0 < j) : fMod (.int i) (.int j) = some (.fz (.int (i % j))) := by
  unfold fMod
  simp only [decide_eq_true h, okO]
theorem f_div {i j : Int} (h : 0 < j) (h2 : slim j = true) : fDiv (.int i) (.int j) = some (.fz (.int (i / j))) := by
  unfold fDiv
  simp only [decide_eq_true h, h2, okO, Bool.and_self]
theorem f_mulI {i j : Int} (h : wide i = true) (h2 : wide j = true) : fMul (.int i) (.int j) = some (.fz (.int (i * j))) := by
  unfold fMul
  simp only [h, h2, okO, Bool.and_self]
theorem wide_lt {i : Int} (h : i.natAbs < 2 ^ 200) : wide i = true := wide_of h (by decide)
theorem slim_lt {i : Int} (h : i.natAbs < 2 ^ 200) : slim i = true := slim_of h (by decide)
theorem shaped_ints (ns : List Int) : SeqAt.shaped (.list (ns.map PyData.int)) = true := by
  have e : PyData.canLayAll0 (ns.map PyData.int) = true := by
    induction ns with
    | nil => rfl
    | cons n ns ih => rw [List.map_cons, PyData.canLayAll0, ih]; rfl
  have e2 : (PyData.list (ns.map PyData.int)).depth ≤ 64 := by
    rw [PyData.depth, PySem.W.depth_ints]
    decide
  unfold SeqAt.shaped
  rw [show (PyData.list (ns.map PyData.int)).canLay0 = PyData.canLayAll0 (ns.map PyData.int) from rfl, e, decide_eq_true e2]
  rfl
def seqK (o : Out) (δ : DS) (t : Ds) : R Out := match o with
  | .nx => t δ
  | o => .ok o δ
theorem k_nx {δ : DS} {t : Ds} {r : R Out} (h : t δ = r) : seqK .nx δ t = r := h
theorem k_rt {δ : DS} {t : Ds} {v : Vl} : seqK (.rt v) δ t = .ok (.rt v) δ := rfl
theorem k_ct {δ : DS} {t : Ds} : seqK .ct δ t = .ok .ct δ := rfl
theorem k_bk {δ : DS} {t : Ds} : seqK .bk δ t = .ok .bk δ := rfl
theorem s_seqG {s t : Ds} {δ δ1 : DS} {o : Out} {r : R Out} (h : s δ = .ok o δ1) (q : seqK o δ1 t = r) : dSeq s t δ = r := by
  unfold dSeq
  rw [h]
  cases o <;> exact q
theorem for_inv {f : D → DS → R Out} {P : DS → Prop} : ∀ (ds : List D), (∀ d ∈ ds, ∀ δ, P δ → ∃ δ', f d δ = .ok .nx δ' ∧ P δ') → ∀ δ, P δ → ∃ δ', forL f ds δ = .ok .nx δ' ∧ P δ'
  | [], _, δ, h => ⟨δ, rfl, h⟩
  | d :: ds, hf, δ, h => by
    obtain ⟨δ1, e1, h1⟩ := hf d List.mem_cons_self δ h
    obtain ⟨δ2, e2, h2⟩ := for_inv ds (fun d hd => hf d (List.mem_cons_of_mem _ hd)) δ1 h1
    refine ⟨δ2, ?_, h2⟩
    unfold forL
    rw [e1]
    exact e2
theorem step_b {g : Dg} {body : Ds} {d : D} {δ δ1 : DS} {r : R Out} (hg : g d δ = .ok .nx δ1) (hb : body δ1 = r) : stepB g body d δ = r := by
  unfold stepB
  rw [hg]
  exact hb
theorem small_of0 {n : Nat} (h : n ≤ 100000) : small n = true := decide_eq_true h
theorem for_idx {f : D → DS → R Out} {P : Nat → DS → Prop} : ∀ (ds : List D) (j : Nat), (∀ (i : Nat) (d : D), ds[i]? = some d → ∀ δ, P (j + i) δ → ∃ δ', f d δ = .ok .nx δ' ∧ P (j + i + 1) δ') → ∀ δ, P j δ → ∃ δ', forL f ds δ = .ok .nx δ' ∧ P (j + ds.length) δ'
  | [], _, _, δ, h => ⟨δ, rfl, h⟩
  | d :: ds, j, hf, δ, h => by
    obtain ⟨δ1, e1, h1⟩ := hf 0 d rfl δ h
    obtain ⟨δ2, e2, h2⟩ := for_idx (P := P) ds (j + 1) (fun i d hd δ hP => by
      have z := hf (i + 1) d (by simpa using hd) δ
      rw [show j + (i + 1) = j + 1 + i by omega] at z
      exact z hP) δ1 h1
    refine ⟨δ2, ?_, by rw [List.length_cons, show j + (ds.length + 1) = j + 1 + ds.length by omega]; exact h2⟩
    unfold forL
    rw [e1]
    exact e2
theorem ix_inD {xs : List D} {j : Int} (h0 : 0 ≤ j) (h1 : j < xs.length) : ∃ x, x ∈ xs ∧ fIx (.list xs) (.int j) = some (.fz x) := by
  obtain ⟨n, rfl⟩ := Int.eq_ofNat_of_zero_le h0
  have hn : n < xs.length := by omega
  exact ⟨xs[n], List.getElem_mem hn, f_ixL (List.getElem?_eq_getElem hn)⟩
theorem ix_str {z : Str} {j : Int} (hz : z.cps.size ≤ 1000) (h0 : 0 ≤ j) (h1 : j < z.cps.size) : ∃ c, c ∈ z.cps.toList ∧ fIx (.str z) (.int j) = some (.fz (.str ⟨#[c]⟩)) := by
  obtain ⟨n, rfl⟩ := Int.eq_ofNat_of_zero_le h0
  have hn : n < z.cps.toList.length := by simp; omega
  refine ⟨z.cps.toList[n], List.getElem_mem hn, ?_⟩
  show (match small z.length with
    | true => (atI z.cps.toList (n : Int)).map fun c => Vl.fz (.str ⟨#[c]⟩)
    | false => none) = _
  rw [show small z.length = true from small_of0 (show z.cps.size ≤ 100000 by omega)]
  simp only
  rw [atI_nat (List.getElem?_eq_getElem hn)]
  rfl
theorem len_str {z : Str} (hz : z.cps.size ≤ 1000) : fLen (.str z) = some (.fz (.int z.cps.size)) := by
  show okO (small z.length) _ = _
  rw [show small z.length = true from small_of0 (show z.cps.size ≤ 100000 by omega)]
  rfl
theorem sf_goal {n : Nat} {vs : List Nat} {δ : DS} (h1 : small n = true) (h2 : freeAt vs δ = true) : (small n && freeAt vs δ) = true := by
  rw [h1, h2]
  rfl
theorem set_goal {δ δ' : DS} {i : Nat} {t : Sl} (h : δ.set i t = δ') : δ.set i t = δ' := h
theorem with_arg {c c' : Co} : (Sl.arg c).with c' = .arg c' := rfl
theorem with_own {c c' : Co} : (Sl.own c).with c' = .own c' := rfl
theorem small_of {n : Nat} (h : n ≤ 100000) : small n = true := decide_eq_true h
end DL

set_option Elab.async false
set_option linter.all false
set_option maxRecDepth 100000
set_option autoImplicit false
namespace DL
open PySem PySem.Spec L2
variable [Tabs]
/-! defs that may raise, step by step -/
theorem ex_ok {as : List Sl} {r : R Vl} {x : Vl} {δ : DS} (h : noEx as r = .ok x δ) : exEx as r = .ok x δ := by
  cases r with
  | ok v δ' => exact h
  | ex c δ' => cases h
  | bad => cases h
theorem run_x {np n : Nat} {as : List Sl} {s : Ds} {δ δ2 : DS} {c : Value} (h0 : (as.length == np && as.all isIn) = true) {δ0 : DS} (hz : as ++ List.replicate (n - np) .no = δ0) (h : s δ0 = .ex c δ) (ht : trim as δ = δ2) : exEx as (runDef np n s as) = .ex c δ2 := by
  subst ht hz
  unfold runDef
  simp only [h0, h, endOf, exEx]
section
variable {δ δ1 δ2 δ3 δ4 δ' : DS} {a b : De} {s s' : Ds} {g : Dg} {c : Value} {al : Da} {ams : List Am} {den : List Sl → R Vl}
theorem x_seq (h : s δ = .ex c δ1) : dSeq s s' δ = .ex c δ1 := by
  unfold dSeq
  rw [h]
theorem x_drop (h : a δ = .ex c δ1) : dDrop a δ = .ex c δ1 := by
  unfold dDrop
  rw [h]
  rfl
theorem x_asgG (h : a δ = .ex c δ1) : dAsgG g a δ = .ex c δ1 := by
  unfold dAsgG
  rw [h]
  rfl
theorem x_asg {i : Nat} (h : a δ = .ex c δ1) : dAsg i a δ = .ex c δ1 := by
  unfold dAsg
  rw [h]
  rfl
theorem x_ret (h : a δ = .ex c δ1) : dRet a δ = .ex c δ1 := by
  unfold dRet
  rw [h]
  rfl
theorem x_call (ha : al δ = .ok ams δ1) (h1 : refPos δ1 ams = none) (h2 : (refOne δ1 ams && ams.all (amKnown δ1)) = true) (hd : den (ams.map (amSl δ1)) = .ex c δ') : dCall den al δ = .ex c δ1 := by
  unfold dCall
  simp only [ha, R.bind, h2, okIf, callM, hd, putBack, h1]
theorem x_raise {x : Str} : dRaise x δ = .ex (exV x) δ := rfl
theorem x_if {t : Dt} {k : Bool} (ht : t δ = .ok k δ1) (h : pick k (s δ1) (s' δ1) = .ex c δ2) : dIfS t s s' δ = .ex c δ2 := by
  unfold dIfS
  rw [ht]
  exact h
theorem ask_n {RN : List Str} {i j : Nat} {sb : Ds} (h : sb δ = .ok .nx δ1) (hj : δ1[j]? = some (.fz .none)) : dAsk RN i j sb δ = .ok (.rt (.fz (.str "none"))) δ1 := by
  unfold dAsk
  rw [h]
  simp only [hj]
theorem ask_x {RN : List Str} {i j : Nat} {sb : Ds} {x : Str} (h : sb δ = .ex (exV x) δ1) (hx : (decide (x ∈ RN) && (okSet δ1 i && okSet δ1 j)) = true) (hs : (δ1.set i .no).set j .no = δ2) : dAsk RN i j sb δ = .ok (.rt (.fz (.str x))) δ2 := by
  subst hs
  unfold dAsk
  rw [h]
  simp only [hx, okIf]
end
/-! ### kinds of anything -/
/-- whether it is a whole number -/
def wholeB : D → Bool
  | .int _ => true
  | _ => false
def belowB (n : Int) : D → Bool
  | .int i => decide (0 ≤ i) && decide (i < n)
  | _ => false
def compB : D → Bool
  | .str z => match z.cps.toList with
    | [c] => decide (97 ≤ c) && decide (c ≤ 122)
    | _ => false
  | _ => false
def rowD : D → Option (List D)
  | .list ds => some ds
  | .tuple ds => some ds
  | _ => none
def rowN (n : Int) (d : D) : Bool := match rowD d with
  | some ds => (ds.length : Int) == n
  | none => false
end DL

set_option Elab.async false
set_option linter.all false
set_option maxRecDepth 100000
set_option autoImplicit false
/-! xs[::-1], and the steps of the layers EG3 to EG7 -/
namespace DL
open PySem PySem.Spec PyProof.Rows L2
variable [Tabs]
section
variable {X : Cx} {C : Cf} {e : Expr} {ta : De}
def fRevL : D → Option Vl
  | .list ds => some (.own (.lst ds.reverse))
  | _ => none
theorem pd_revL {k : Nat} {p1 p2 p3 pos : Pos} (he : PE X e (up C ta)) (hK : C.K = X.K := by rfl) : PE X (.Subscript e (.Slice none none (some (.UnaryOp .USub (.Constant (.int 1) k p1) p2)) p3) pos) (up C (dUn fRevL ta)) := pe_weak (pe_revL he) fun σ H Q ⟨G, δ, F, hC, k, h⟩ => by
  subst hC
  refine ⟨G, δ, F, rfl, k, finA_bind h fun x δ1 v F1 H1 k1 g1 w1 h1 => ?_⟩
  obtain ⟨F2, k2, g2, w2⟩ := k1.freeze w1
  obtain ⟨d, z, e1, e3, q⟩ := lift1_fin (finA_mono h1 g2)
  have hx := k2.view w2 e1
  cases d with
  | list ds =>
    obtain ⟨p, vs, rfl, h1, h2⟩ := hx.list k2.fh
    cases e3
    rw [← hK]
    exact ⟨_, _, rfl, SqL.of h1, (q H1).newL k2 (dpa_rev h2)⟩
  | _ => cases e3
end
/-! ### steps -/
section
variable {δ δ1 δ2 : DS} {vs : List Nat} {ti : Di} {g : Dg} {te : De} {ds : List D}
theorem r_allG {b : Bool} (hi : ti δ = .ok ds δ1) (h0 : (small ds.length && freeAt vs δ1) = true) (h : allL (turnL vs g dYes te) ds δ1 = .ok b δ2) : dAllG vs ti g te δ = .ok (.fz (.bool b)) δ2 := by
  unfold dAllG
  simp only [hi, R.bind, h0, okIf, h]
theorem all_pure {f : D → DS → R (Option D)} {φ : D → Bool} : ∀ ds : List D, (∀ d ∈ ds, f d δ = .ok (some (.bool (φ d))) δ) → allL f ds δ = .ok (ds.all φ) δ
  | [], _ => rfl
  | d :: ds, h => by
    have e1 := h d List.mem_cons_self
    have e2 := all_pure ds fun y hy => h y (List.mem_cons_of_mem _ hy)
    unfold allL
    rw [e1, List.all_cons]
    cases φ d
    · rfl
    · exact e2
theorem all_map {α : Type} {f : D → DS → R (Option D)} {enc : α → D} {φ : α → Bool} {xs : List α} (h : ∀ x ∈ xs, f (enc x) δ = .ok (some (.bool (φ x))) δ) : allL f (xs.map enc) δ = .ok (xs.all φ) δ := by
  induction xs with
  | nil => rfl
  | cons x xs ih =>
    have e1 := h x List.mem_cons_self
    have e2 := ih fun y hy => h y (List.mem_cons_of_mem _ hy)
    rw [List.map_cons, List.all_cons]
    unfold allL
    rw [e1]
    cases φ x
    · rfl
    · exact e2
/-- the first one that is not so ends it -/
theorem all_pre {f : D → DS → R (Option D)} {d : D} {es : List D} : ∀ ds : List D, (∀ d ∈ ds, f d δ = .ok (some (.bool true)) δ) → f d δ = .ok (some (.bool false)) δ → allL f (ds ++ d :: es) δ = .ok false δ
  | [], _, h => by
    show allL f (d :: es) δ = _
    unfold allL
    rw [h]
  | c :: ds, h, h' => by
    show allL f (c :: (ds ++ d :: es)) δ = _
    unfold allL
    rw [h c List.mem_cons_self]
    exact all_pre ds (fun y hy => h y (List.mem_cons_of_mem _ hy)) h'
theorem r_lenS {L : List D} {ns : List Int} (hi : ti δ = .ok ds δ1) (h0 : (decide (ds.length ≤ 1000) && freeAt vs δ1) = true) (h : compL (turnL vs g dYes te) ds δ1 = .ok L δ2) (hn : asInts L = some ns) : dLenS vs ti g te δ = .ok (.fz (.int (dstN [] ns : Nat))) δ2 := by
  unfold dLenS
  simp only [hi, R.bind, h0, okIf, h, hn]
theorem asInts_map {α : Type} (f : α → Int) (xs : List α) : asInts (xs.map fun x => PyData.int (f x)) = some (xs.map f) := by
  induction xs with
  | nil => rfl
  | cons x xs ih => simp only [List.map_cons, asInts, ih, Option.map_some]
theorem dstN_le : ∀ (seen ns : List Int), dstN seen ns ≤ ns.length
  | _, [] => Nat.le_refl _
  | seen, x :: xs => by
    have h := dstN_le (x :: seen) xs
    simp only [dstN, List.length_cons]
    split <;> omega
theorem dstN_full : ∀ (ns seen : List Int), ns.Nodup → (∀ x ∈ ns, x ∉ seen) → dstN seen ns = ns.length
  | [], _, _, _ => rfl
  | x :: xs, seen, h, hs => by
    have h := List.nodup_cons.mp h
    simp only [dstN, List.length_cons, if_neg (hs x List.mem_cons_self)]
    rw [dstN_full xs (x :: seen) h.2 fun y hy z => by
      rcases List.mem_cons.mp z with rfl | z
      · exact h.1 hy
      · exact hs y (List.mem_cons_of_mem _ hy) z]
    omega
theorem dstN_less : ∀ (ns seen : List Int), dstN seen ns = ns.length → ns.Nodup ∧ ∀ x ∈ ns, x ∉ seen
  | [], _, _ => ⟨List.nodup_nil, fun _ z => nomatch z⟩
  | x :: xs, seen, h => by
    have h1 := dstN_le (x :: seen) xs
    simp only [dstN, List.length_cons] at h
    by_cases hx : x ∈ seen
    · rw [if_pos hx] at h; omega
    · rw [if_neg hx] at h
      obtain ⟨a, b⟩ := dstN_less xs (x :: seen) (by omega)
      refine ⟨List.nodup_cons.mpr ⟨fun z => b x z List.mem_cons_self, a⟩, fun y hy => ?_⟩
      rcases List.mem_cons.mp hy with rfl | hy
      · exact hx
      · exact fun z => b y hy (List.mem_cons_of_mem _ z)
/-- fewer than they are: just where one is there twice -/
theorem dstN_lt (ns : List Int) : (dstN [] ns < ns.length) ↔ ¬ ns.Nodup := by
  refine ⟨fun h z => ?_, fun h => ?_⟩
  · rw [dstN_full ns [] z fun _ _ y => nomatch y] at h; omega
  · refine Nat.lt_of_le_of_ne (dstN_le _ _) fun e => h (dstN_less ns [] e).1
theorem i_zipL {l : Dl} {as bs : List D} (hl : l δ = .ok [.list as, .list bs] δ1) : dZipA l δ = .ok (zipD as bs) δ1 := by
  unfold dZipA
  rw [hl]
  rfl
theorem i_zipT {l : Dl} {as bs : List D} (hl : l δ = .ok [.tuple as, .tuple bs] δ1) : dZipA l δ = .ok (zipD as bs) δ1 := by
  unfold dZipA
  rw [hl]
  rfl
theorem i_rev {l : Dl} {as : List D} (hl : l δ = .ok [.list as] δ1) : dRevI l δ = .ok as.reverse δ1 := by
  unfold dRevI
  rw [hl]
  rfl
theorem zipD_map {α β : Type} (f : α → D) (h : β → D) : ∀ (as : List α) (bs : List β), zipD (as.map f) (bs.map h) = (as.zip bs).map fun q => PyData.tuple [f q.1, h q.2]
  | [], _ => by cases ‹List β› <;> rfl
  | _ :: _, [] => rfl
  | a :: as, b :: bs => by
    simp only [List.map_cons, zipD, List.zip_cons_cons, zipD_map f h as bs]
end
end DL

set_option Elab.async false
set_option linter.all false
set_option maxRecDepth 100000
set_option autoImplicit false
/-! list(range(..)), is and is not of truths, items as targets -/
namespace DL
open PySem PySem.Spec PyProof.Rows L2
variable [Tabs]
section
variable {X : Cx} {C : Cf} {a b e : Expr} {ta tb : De} {pos : Pos}
/-! ### list(range(b)), list(range(a, b)) -/
def intsR (a b : Int) : List Int := (List.range (b - a).toNat).map fun i => a + (i : Nat)
theorem intsR_len (a b : Int) : (intsR a b).length = (b - a).toNat := by
  unfold intsR
  rw [List.length_map, List.length_range]
theorem rgV_ints (a b : Int) : rgV a b = (intsR a b).map V.int := by
  unfold rgV intsR
  rw [List.map_map]
  rfl
def dListR1 (ta : De) : De := fun δ => (ta δ).bind fun x δ1 => match x with
  | .fz (.int b) => okIf (decide (-100000 ≤ b ∧ b ≤ 100000)) (.ok (.own (.lst ((intsR 0 b).map PyData.int))) δ1)
  | _ => .bad
def dListR2 (ta tb : De) : De := fun δ => (ta δ).bind fun x δ1 => (tb δ1).bind fun y δ2 => match x, y with
  | .fz (.int a), .fz (.int b) => okIf (decide ((-100000 ≤ a ∧ a ≤ 100000) ∧ -100000 ≤ b ∧ b ≤ 100000)) (.ok (.own (.lst ((intsR a b).map PyData.int))) δ2)
  | _, _ => .bad
theorem small_rg {a b : Int} (h : -100000 ≤ a ∧ b ≤ 100000) (h1 : a < 2 ^ 62) (h2 : -(2 ^ 62) ≤ b) : RgOk a b := ⟨by omega, h1, h2, by omega, by omega⟩
theorem pd_listR1 {p p2 pos2 : Pos} (hm : X.mg "list" = none) (hm2 : X.mg "range" = none) (ha : PE X a (up C ta)) (hc : X.calm = true := by rfl) (hg : Gl X "list" := by rfl) (hg2 : Gl X "range" := by rfl) (na : starEach [a] X.env = (false, eval a X.env) :: starEach [] X.env := by rfl)
    (na2 : starEach [.Call (.Name "range" p2) [a] [] pos2] X.env = (false, eval (.Call (.Name "range" p2) [a] [] pos2) X.env) :: starEach [] X.env := by rfl) :
    PE X (.Call (.Name "list" p) [.Call (.Name "range" p2) [a] [] pos2] [] pos) (up C (dListR1 ta)) := pe_weak (pe_listRg hc hg hm (prg_1 hg2 hm2 ha na) na2) fun σ H Q ⟨G, δ, F, hC, k, h⟩ => by
  subst hC
  refine ⟨G, δ, F, rfl, k, finA_bind h fun x δ1 v F1 H1 k1 g1 w1 h1 => ?_⟩
  cases x with
  | fz d => cases d with
    | int n =>
      cases w1
      obtain ⟨z, h2⟩ := okIf_fin h1
      have z : -100000 ≤ n ∧ n ≤ 100000 := of_decide_eq_true z
      refine ⟨n, rfl, small_rg ⟨by omega, z.2⟩ (by omega) (by omega), ?_⟩
      · rw [rgV_ints]
        exact Res.newL (fun v F' H' s g w => h2 v F' H' s g w) k1 (dpa_ints _)
    | _ => exact h1.elim
  | _ => exact h1.elim
theorem pd_listR2 {p p2 pos2 : Pos} (hm : X.mg "list" = none) (hm2 : X.mg "range" = none) (ha : PE X a (up C ta)) (hb : PE X b (up C tb)) (hc : X.calm = true := by rfl) (hg : Gl X "list" := by rfl) (hg2 : Gl X "range" := by rfl) (na : starEach [a, b] X.env = (false, eval a X.env) :: starEach [b] X.env := by rfl)
    (nb : starEach [b] X.env = (false, eval b X.env) :: starEach [] X.env := by rfl) (hp : (backTo pos2 (starEach [b] X.env)).any (·.1) = false := by rfl)
    (na2 : starEach [.Call (.Name "range" p2) [a, b] [] pos2] X.env = (false, eval (.Call (.Name "range" p2) [a, b] [] pos2) X.env) :: starEach [] X.env := by rfl) :
    PE X (.Call (.Name "list" p) [.Call (.Name "range" p2) [a, b] [] pos2] [] pos) (up C (dListR2 ta tb)) := pe_weak (pe_listRg hc hg hm (prg_2 hg2 hm2 ha hb na nb hp) na2) fun σ H Q ⟨G, δ, F, hC, k, h⟩ => by
  subst hC
  refine ⟨G, δ, F, rfl, k, finA_bind h fun x δ1 v F1 H1 k1 g1 w1 h1 => ?_⟩
  refine ⟨G, δ1, F1, rfl, k1, finA_bind h1 fun y δ2 u F2 H2 k2 g2 w2 h2 => ?_⟩
  cases x with
  | fz d => cases d with
    | int n => cases y with
      | fz d' => cases d' with
        | int m =>
          cases w1
          cases w2
          obtain ⟨z, h3⟩ := okIf_fin h2
          have z : (-100000 ≤ n ∧ n ≤ 100000) ∧ -100000 ≤ m ∧ m ≤ 100000 := of_decide_eq_true z
          refine ⟨n, m, rfl, rfl, small_rg ⟨z.1.1, z.2.2⟩ (by omega) (by omega), ?_⟩
          rw [rgV_ints]
          exact Res.newL (fun v F' H' s g w => h3 v F' H' s g w) k2 (dpa_ints _)
        | _ => exact h2.elim
      | _ => exact h2.elim
    | _ => exact h2.elim
  | _ => exact h2.elim
/-! ### is, is not of truths -/
def fIsB (d e : D) : Option Vl := match d, e with
  | .bool a, .bool b => some (.fz (.bool (decide (a = b))))
  | _, _ => none
def fNotB (d e : D) : Option Vl := match d, e with
  | .bool a, .bool b => some (.fz (.bool (!decide (a = b))))
  | _, _ => none
theorem o_isB {K : PySem.W.Frag} : Op2 K rIsB fIsB := by
  intro G δ σ F H x y d e z Q hK k hx hy ez q
  cases d with
  | bool i => cases e with
    | bool j =>
      cases ez
      exact ⟨i, j, hx.bl, hy.bl, q.fz k (.bl _)⟩
    | _ => cases ez
  | _ => cases ez
theorem o_notB {K : PySem.W.Frag} : Op2 K rNotB fNotB := by
  intro G δ σ F H x y d e z Q hK k hx hy ez q
  cases d with
  | bool i => cases e with
    | bool j =>
      cases ez
      exact ⟨i, j, hx.bl, hy.bl, q.fz k (.bl _)⟩
    | _ => cases ez
  | _ => cases ez
theorem pd_isB (ha : PE X a (up C ta)) (hb : PE X b (up C tb)) : PE X (.Compare a [.Is] [b] pos) (up C (dBin fIsB ta tb)) := pd_cmp op_isBl o_isB ha hb (nomark _)
theorem pd_isnotB (ha : PE X a (up C ta)) (hb : PE X b (up C tb)) : PE X (.Compare a [.IsNot] [b] pos) (up C (dBin fNotB ta tb)) := pd_cmp op_notBl o_notB ha hb (nomark _)
theorem ptd_isB (ha : PE X a (up C ta)) (hb : PE X b (up C tb)) : PT X (.Compare a [.Is] [b] pos) (upT C (dTest (dBin fIsB ta tb))) := pdt_cmp op_isBl o_isB ha hb (nomark _)
theorem ptd_isnotB (ha : PE X a (up C ta)) (hb : PE X b (up C tb)) : PT X (.Compare a [.IsNot] [b] pos) (upT C (dTest (dBin fNotB ta tb))) := pdt_cmp op_notBl o_notB ha hb (nomark _)
/-! ### x in xs, x not in xs: a list of data -/
theorem room65 {k : Nat} {A : Around} (r : Room k A) : A.units + 65 < cLine := by
  have := r.un
  omega
def fIn (d e : D) : Option Vl := match e with
  | .list ds => okO (SeqAt.shaped d && SeqAt.shaped (.list ds)) (some (.fz (.bool (ds.any fun z => PyData.eqv z d))))
  | _ => none
def fNotIn (d e : D) : Option Vl := match e with
  | .list ds => okO (SeqAt.shaped d && SeqAt.shaped (.list ds)) (some (.fz (.bool (!ds.any fun z => PyData.eqv z d))))
  | _ => none
theorem o_in {K : PySem.W.Frag} : Op2 K (rInD K) fIn := by
  intro G δ σ F H x y d e z Q hK k hx hy ez q
  subst hK
  cases e with
  | list ds =>
    obtain ⟨e1, e2⟩ := okO_some ez
    cases e2
    rw [Bool.and_eq_true] at e1
    exact ⟨d, ds, dp_lib _ _ (SeqAt.canLay_of_shaped e1.1) (hx.dp k.fh), dp_lib _ _ (SeqAt.canLay_of_shaped e1.2) (hy.dp k.fh), e1.1, e1.2, q.fz k (.bl _)⟩
  | _ => cases ez
theorem o_notin {K : PySem.W.Frag} : Op2 K (rNotInD K) fNotIn := by
  intro G δ σ F H x y d e z Q hK k hx hy ez q
  subst hK
  cases e with
  | list ds =>
    obtain ⟨e1, e2⟩ := okO_some ez
    cases e2
    rw [Bool.and_eq_true] at e1
    exact ⟨d, ds, dp_lib _ _ (SeqAt.canLay_of_shaped e1.1) (hx.dp k.fh), dp_lib _ _ (SeqAt.canLay_of_shaped e1.2) (hy.dp k.fh), e1.1, e1.2, q.fz k (.bl _)⟩
  | _ => cases ez
theorem pd_in (hu : X.A.units + 65 < cLine) (ha : PE X a (up C ta)) (hb : PE X b (up C tb)) (hK : C.K = X.K := by rfl) (hm : behindInMarks .In b = false := by with_unfolding_all rfl) : PE X (.Compare a [.In] [b] pos) (up C (dBin fIn ta tb)) := pe_weak (pe_cmpR (op_inD hu) ha hb hm) (rfK_bin (r := rInD) (fun _ => o_in) hK)
theorem pd_notin (hu : X.A.units + 65 < cLine) (ha : PE X a (up C ta)) (hb : PE X b (up C tb)) (hK : C.K = X.K := by rfl) (hm : behindInMarks .NotIn b = false := by with_unfolding_all rfl) : PE X (.Compare a [.NotIn] [b] pos) (up C (dBin fNotIn ta tb)) := pe_weak (pe_cmpR (op_notInD hu) ha hb hm) (rfK_bin (r := rNotInD) (fun _ => o_notin) hK)
theorem ptd_in (hu : X.A.units + 65 < cLine) (ha : PE X a (up C ta)) (hb : PE X b (up C tb)) (hK : C.K = X.K := by rfl) (hm : behindInMarks .In b = false := by with_unfolding_all rfl) : PT X (.Compare a [.In] [b] pos) (upT C (dTest (dBin fIn ta tb))) := pt_weak (pt_cmpR (op_inD hu) ha hb hm) (rf_test (rfK_bin (r := rInD) (fun _ => o_in) hK))
theorem ptd_notin (hu : X.A.units + 65 < cLine) (ha : PE X a (up C ta)) (hb : PE X b (up C tb)) (hK : C.K = X.K := by rfl) (hm : behindInMarks .NotIn b = false := by with_unfolding_all rfl) : PT X (.Compare a [.NotIn] [b] pos) (upT C (dTest (dBin fNotIn ta tb))) := pt_weak (pt_cmpR (op_notInD hu) ha hb hm) (rf_test (rfK_bin (r := rNotInD) (fun _ => o_notin) hK))
/-! ### xs[i] as a target -/
theorem finG_more {G : Ct} {r : R Out} {ts : List Nat} {σ : L2.St} {F F1 : Hp} {Q : L2.St → Hp → Prop} (h : finG G r ts σ F Q) (g : Same F F1) : finG G r ts σ F1 Q := by
  cases r with
  | ok o δ => cases o with
    | nx => exact fun σ' F' H' s g' m => h σ' F' H' s (g.trans g') m
    | _ => exact h
  | _ => exact h
theorem finG_bind {α β : Type} {G : Ct} {W : DS → Hp → Hp → β → α → Prop} {r : R α} {k : α → DS → R Out} {ts : List Nat} {σ : L2.St} {F : Hp} {Q : L2.St → Hp → Prop} {Q' : β → Hp → Prop} (h : finG G (r.bind k) ts σ F Q)
    (hk : ∀ a δ1 v F1 H1, St1 G δ1 σ F1 H1 → Same F F1 → W δ1 F1 H1 v a → finG G (k a δ1) ts σ F1 Q → Q' v H1) : finA G W r σ F Q' := by
  cases r with
  | ok a δ => exact fun v F1 H1 s g w => hk a δ v F1 H1 s g w (finG_more h g)
  | ex c δ => exact h.elim
  | bad => exact h.elim
def gItem (i : Nat) (b : De) : Dg := fun d δ => okIf (isLst i δ) ((b δ).bind fun y δ1 => (asInt y δ1).bind fun j δ2 => mutL i (fSet j d) δ2)
theorem pdg_item (i : Nat) {x : Str} {p1 p2 : Pos} (hb : PE X b (up C tb)) (hN : X.N[i]? = some x := by rfl) (hv : Vis X.env.scope x := by first | exact Or.inl rfl | exact Or.inr (Or.inl rfl) | exact Or.inr (Or.inr rfl)) (hd : (x == ("__debug__" : Str)) = false := by decide)
    (hcd : (x == ("__classdict__" : Str)) = false := by decide) (hpg : ∀ (to ti : TE), PE X (.Name x p1) to → PE X b ti → PG X (.Subscript (.Name x p1) b p2) (gSub to ti rSetL) := by exact fun _ _ h1 h2 => pg_sub h1 h2 set_list) :
    PG X (.Subscript (.Name x p1) b p2) (upG C [] (gItem i tb)) := pg_weak (hpg _ _ (pe_var hN hv hd hcd) hb) fun v σ H Q ⟨G, δ, F, d, hC, k, w, h⟩ => by
  subst hC
  unfold gItem at h
  cases z : isLst i δ with
  | false => rw [z] at h; exact h.elim
  | true =>
    rw [z] at h
    have h : finG G ((tb δ).bind fun y δ1 => (asInt y δ1).bind fun j δ2 => mutL i (fSet j d) δ2) [] σ F Q := h
    obtain ⟨p, vs, e1, e2⟩ := isLst_held k z
    refine ⟨.ref p, e1, G, δ, F, rfl, k, finG_bind h fun y δ1 u F1 H1 k1 g1 w1 h1 => ?_⟩
    cases y with
    | fz d' => cases d' with
      | int j =>
        cases w1
        have h1 : finG G (mutL i (fSet j d) δ1) [] σ F1 Q := h1
        unfold mutL at h1
        cases el : lstAt i δ1 with
        | none => rw [el] at h1; exact h1.elim
        | some q =>
          obtain ⟨s, ds⟩ := q
          rw [el] at h1
          obtain ⟨q1, q2⟩ := lstAt_some el
          obtain ⟨p', o, a1, a2, a3, vs', rfl, a4⟩ := k1.held q1 q2
          rw [e1] at a1
          cases a1
          have h1 : finG G (match (ixN ds.length j).map fun m => ds.set m d with | some l => .ok .nx (δ1.set i (s.with (.lst l))) | none => .bad) [] σ F1 Q := h1
          cases eq : ixN ds.length j with
          | none => rw [eq] at h1; exact h1.elim
          | some m =>
            rw [eq] at h1
            exact ⟨p, vs', j, m, rfl, rfl, a2, by rw [dpa_len a4]; exact eq, h1 σ F1 _ (k1.change q1 q2 e1 ⟨_, rfl, dpa_set m a4 (dp_mono g1 _ _ w)⟩) (Same.refl F1) ⟨fun _ _ => rfl, rfl⟩⟩
      | _ => exact h1.elim
    | _ => exact h1.elim
/-! ### steps -/
variable {δ δ1 δ2 : DS} {x y : Vl}
theorem r_listR1 {n : Int} (ha : ta δ = .ok (.fz (.int n)) δ1) (h : -100000 ≤ n ∧ n ≤ 100000) : dListR1 ta δ = .ok (.own (.lst ((intsR 0 n).map PyData.int))) δ1 := by
  unfold dListR1
  simp only [ha, R.bind, decide_eq_true h, okIf]
theorem g_item {i : Nat} {s : Sl} {ds : List D} {d : D} {j : Int} {m : Nat} (hl : lstAt i δ = some (s, ds)) (hb : tb δ = .ok (.fz (.int j)) δ) (hm : ixN ds.length j = some m) : gItem i tb d δ = .ok .nx (δ.set i (s.with (.lst (ds.set m d)))) := by
  unfold gItem isLst
  simp only [hl, Option.isSome_some, okIf, hb, R.bind, asInt, mutL, fSet, hm, Option.map_some]
end
end DL

set_option Elab.async false
set_option linter.all false
set_option maxRecDepth 100000
set_option autoImplicit false
/-! xs.count(whole number) of a list of whole numbers -/
namespace DL
open PySem PySem.Spec PyProof.Rows L2
variable [Tabs]
section
variable {X : Cx} {C : Cf} {e : Expr} {ta : De} {pos : Pos}
theorem asInts_some : ∀ {ds : List D} {ns : List Int}, asInts ds = some ns → ds = ns.map PyData.int
  | [], _, h => by cases h; rfl
  | .int x :: ds, ns, h => by
    have h : (asInts ds).map (x :: ·) = some ns := h
    cases q : asInts ds with
    | none => rw [q] at h; cases h
    | some zs =>
      rw [q] at h
      cases h
      rw [asInts_some q]
      rfl
  | .none :: _, _, h => by cases h
  | .bool _ :: _, _, h => by cases h
  | .str _ :: _, _, h => by cases h
  | .list _ :: _, _, h => by cases h
  | .tuple _ :: _, _, h => by cases h
  | .dict _ :: _, _, h => by cases h
def cntI (i : Nat) (x : Int) (δ : DS) : R Vl := match lstW i δ with
  | some ds => match asInts ds with
    | some ys => .ok (.fz (.int (ys.countP fun y => y == x : Nat))) δ
    | none => .bad
  | none => .bad
def dCntI (i : Nat) (a : De) : De := fun δ => okIf (lstW i δ).isSome ((a δ).bind fun x δ1 => match x with
  | .fz (.int x) => cntI i x δ1
  | _ => .bad)
theorem cntI_fin {G : Ct} {i : Nat} {x : Int} {δ : DS} {σ : L2.St} {F : Hp} {Q : VK} (h : finA G (WV G σ) (cntI i x δ) σ F Q) : ∃ ds ys, lstW i δ = some ds ∧ asInts ds = some ys ∧ finA G (WV G σ) (.ok (.fz (.int (ys.countP fun y => y == x : Nat))) δ) σ F Q := by
  unfold cntI at h
  cases q : lstW i δ with
  | none => rw [q] at h; exact h.elim
  | some ds =>
    rw [q] at h
    simp only at h
    cases q2 : asInts ds with
    | none => rw [q2] at h; exact h.elim
    | some ys => rw [q2] at h; exact ⟨ds, ys, rfl, q2, h⟩
def rCntI (K : PySem.W.Frag) : V → List V → Hp → VK → Prop := fun x xs H Q => ∃ (p : Addr) (ys : List Int) (k : Int), x = .ref p ∧ xs = [.int k] ∧ SqL K H p (ys.map V.int) ∧ Q (.int (ys.countP fun y => y == k : Nat)) H
theorem mt_cntI : MtR X "list.count" (rCntI X.K) := by
  intro pins t σ H x xs v us Q I rx rxs h
  obtain ⟨p, ys, k, rfl, rfl, hs, q⟩ := h
  cases rx
  obtain ⟨u, rfl, ru⟩ := rxs.one
  obtain ⟨tk, rfl⟩ := ru
  obtain ⟨its, rv, hl, _⟩ := I.list hs
  refine PyProof.Rows.count_list_ints hl.isList (intsAre_of rv) ⟨.int _, H, I.tok _, ⟨_, rfl⟩, q⟩
theorem pd_cntI (i : Nat) {x : Str} {p1 p2 p3 : Pos} (ha : PE X e (up C ta)) (hN : X.N[i]? = some x := by rfl) (hv : Vis X.env.scope x := by first | exact Or.inl rfl | exact Or.inr (Or.inl rfl) | exact Or.inr (Or.inr rfl)) (hd : (x == ("__debug__" : Str)) = false := by decide)
    (hcd : (x == ("__classdict__" : Str)) = false := by decide) (hK : C.K = X.K := by rfl)
    (hcall : ∀ (to te : TE), PE X (.Name x p1) to → PE X e te → PE X (.Call (.Attribute (.Name x p1) "count" p2) [e] [] p3) (tBM X.K "list" (rCntI X.K) to (tCons te tNil)) := by exact fun _ _ h1 h2 => pe_bm PySem.F.plainAttrs_list PySem.F.slot_list_count PySem.F.type_list_count mt_cntI h1 (pa_cons h2 pa_nil)) :
    PE X (.Call (.Attribute (.Name x p1) "count" p2) [e] [] p3) (up C (dCntI i ta)) := by
  refine pe_weak (hcall _ _ (pe_var hN hv hd hcd) ha) fun σ H Q ⟨G, δ, F, hC, k, h⟩ => ?_
  subst hC
  obtain ⟨z, h⟩ := okIf_fin h
  obtain ⟨es, hes⟩ := Option.isSome_iff_exists.mp z
  obtain ⟨p, vs, e1, e2, _⟩ := lstW_at k hes
  refine ⟨.ref p, e1, .inl ⟨rfl, vs, SqL.of e2⟩, G, δ, F, rfl, k, finA_bind h fun y δ1 v F1 H1 k1 g1 w1 h1 => ?_⟩
  cases y with
  | loc _ => exact h1.elim
  | own _ => exact h1.elim
  | fz d =>
    cases d with
    | int j =>
      have w1 : Dp G.K F1 v (.int j) := w1
      cases w1
      obtain ⟨ds, ys, q1, q3, h2⟩ := cntI_fin h1
      obtain ⟨p', vs', a1, a2, a4⟩ := lstW_at k1 q1
      rw [e1] at a1
      cases a1
      have := asInts_some q3
      subst this
      rw [dpa_int_eq a4] at a2
      exact ⟨p, ys, j, rfl, rfl, SqL.of a2, h2 _ F1 H1 k1 (Same.refl F1) (.int _)⟩
    | _ => exact h1.elim
end
theorem r_cntI {i : Nat} {a : De} {δ δ1 : DS} {ds : List D} {ys : List Int} {x : Int} (ha : a δ = .ok (.fz (.int x)) δ1) (h0 : (lstW i δ).isSome = true) (h1 : lstW i δ1 = some ds) (h2 : asInts ds = some ys) : dCntI i a δ = .ok (.fz (.int (ys.countP fun y => y == x : Nat))) δ1 := by
  unfold dCntI
  simp only [h0, okIf, ha, R.bind]
  unfold cntI
  simp only [h1, h2]
theorem i_r2 {l : Dl} {δ δ1 : DS} {m n : Int} (hl : l δ = .ok [.int m, .int n] δ1) (h1 : -1000000 ≤ n) (h2 : n ≤ 1000000) (h3 : -1000000 ≤ m) (h4 : m ≤ 1000000) : dRange2 l δ = .ok ((List.range (n - m).toNat).map fun (i : Nat) => PyData.int (m + i)) δ1 := by
  unfold dRange2
  rw [hl]
  simp only [R.bind, decide_eq_true h1, decide_eq_true h2, decide_eq_true h3, decide_eq_true h4, okIf, Bool.and_self]
end DL

set_option Elab.async false
set_option linter.all false
set_option maxRecDepth 100000
set_option autoImplicit false
/-! a comprehension over a list of one's own that stays one's own -/
namespace DL
open PySem PySem.Spec PyProof.Rows L2
variable [Tabs]
/-- item by item, of the list as it stands by then -/
def compO (i : Nat) (f : D → DS → R (Option D)) : Nat → Nat → DS → R (List D)
  | 0, _, _ => .bad
  | n + 1, j, δ => match lstAt i δ with
    | some (_, ds) => match ds[j]? with
      | none => .ok [] δ
      | some d => match f d δ with
        | .ok o δ1 => match compO i f n (j + 1) δ1 with
          | .ok l δ2 => .ok (o.toList ++ l) δ2
          | _ => .bad
        | _ => .bad
    | none => .bad
def fuelO : Nat := 100000
def dLcO (i : Nat) (vs : List Nat) (g : Dg) (tt : Dt) (te : De) : De := fun δ => okIf (freeAt vs δ) (match compO i (turnL vs g tt te) fuelO 0 δ with
  | .ok l δ2 => .ok (.own (.lst l)) δ2
  | _ => .bad)
theorem compO_at {i n j : Nat} {f : D → DS → R (Option D)} {δ δe : DS} {l : List D} (h : compO i f n j δ = .ok l δe) : ∃ m s ds, n = m + 1 ∧ lstAt i δ = some (s, ds) ∧ ((ds[j]? = none ∧ l = [] ∧ δ = δe) ∨ ∃ d o δ1 l', ds[j]? = some d ∧ f d δ = .ok o δ1 ∧ compO i f m (j + 1) δ1 = .ok l' δe ∧ l = o.toList ++ l') := by
  cases n with
  | zero => cases h
  | succ m =>
    unfold compO at h
    cases e : lstAt i δ with
    | none => rw [e] at h; cases h
    | some q =>
      obtain ⟨s, ds⟩ := q
      rw [e] at h
      refine ⟨m, s, ds, rfl, rfl, ?_⟩
      simp only at h
      cases e1 : ds[j]? with
      | none =>
        rw [e1] at h
        cases h
        exact .inl ⟨rfl, rfl, rfl⟩
      | some d =>
        rw [e1] at h
        simp only at h
        cases e2 : f d δ with
        | ok o δ1 =>
          rw [e2] at h
          simp only at h
          cases e3 : compO i f m (j + 1) δ1 with
          | ok l' δ2 =>
            rw [e3] at h
            cases h
            exact .inr ⟨d, o, δ1, l', rfl, e2, e3, rfl⟩
          | ex c s => rw [e3] at h; cases h
          | bad => rw [e3] at h; cases h
        | ex c s => rw [e2] at h; cases h
        | bad => rw [e2] at h; cases h
section
variable {X : Cx} {C : Cf}
theorem rf_lcO {i : Nat} {vs ts : List Nat} {g : Dg} {tt : Dt} {te : De} (hts : ∀ t ∈ ts, t ∈ vs) : ∀ σ H Q, up C (dLcO i vs g tt te) σ H Q → tLc (iList C.K (tVar i)) (upG (nox C) ts g) (upT (nox C) tt) (up (nox C) te) vs σ H Q := fun σ H Q ⟨G, δ, F0, hC, k, h⟩ => by
  subst hC
  obtain ⟨z, h2⟩ := okIf_fin h
  cases ec : compO i (turnL vs g tt te) fuelO 0 δ with
  | ex c s => rw [ec] at h2; exact h2.elim
  | bad => rw [ec] at h2; exact h2.elim
  | ok L δe =>
    rw [ec] at h2
    obtain ⟨_, s0, ds0, _, el0, _⟩ := compO_at ec
    obtain ⟨a1, a2⟩ := lstAt_some el0
    obtain ⟨a, o, b1, b2, b3, vs0, rfl, b4⟩ := k.held a1 a2
    refine ⟨.ref a, b1, a, rfl, ⟨vs0, SqL.of b2⟩, fun p hp => ?_⟩
    refine ⟨fun j m H => m + j ≤ fuelO ∧ ∃ δ F acc l, St1 G δ σ F H ∧ freeAt vs δ = true ∧ VlOk G δ σ F H (.ref p) (.own (.lst acc)) ∧ compO i (turnL vs g tt te) m j δ = .ok l δe ∧ acc.length ≤ j ∧ acc ++ l = L ∧ Same F0 F,
      ⟨fuelO, Nat.le_refl _, δ, F0, [], L, k.newOwn hp, z, k.valOwn hp ⟨[], rfl, .nil⟩, ec, Nat.le_refl _, rfl, Same.refl F0⟩, ?_⟩
    rintro j m H2 ⟨hm, δ2, F2, acc, l, k2, hv, wa, e2, hacc, rfl, g2⟩
    obtain ⟨m', s2, ds2, rfl, el, e3⟩ := compO_at e2
    obtain ⟨c1, c2⟩ := lstAt_some el
    obtain ⟨a', o', d1, d2, d3, vs2, rfl, d4⟩ := k2.held c1 c2
    rw [b1] at d1
    cases d1
    rcases e3 with ⟨n1, rfl, rfl⟩ | ⟨d, o, δ3, l', n1, n2, n3, rfl⟩
    · left
      refine ⟨⟨vs2, SqL.of d2, ?_⟩, ?_⟩
      · have := List.getElem?_eq_none_iff.mp n1
        rw [dpa_len d4]
        exact this
      · rw [List.append_nil] at h2
        exact h2 (.ref p) F2 H2 k2 g2 wa
    · right
      obtain ⟨v, v1, v2⟩ := dpa_get d4 n1
      refine ⟨⟨vs2, v, SqL.of d2, v1⟩, fun H' => ∃ F', St1 G δ3 σ F' H' ∧ Same F2 F' ∧ VlOk G δ3 σ F' H' (.ref p) (.own (.lst (acc ++ o.toList))), fun H' ⟨F', q1, q2, q3⟩ => ⟨m', by omega, by omega, δ3, F', acc ++ o.toList, l', q1, ?_, q3, n3, ?_, by rw [List.append_assoc], g2.trans q2⟩, fun x H3 y => ?_⟩
      · unfold turnL backR at n2
        split at n2
        · cases n2
          exact freeAt_back hv
        · cases n2
      · rw [List.length_append]
        have : o.toList.length ≤ 1 := by cases o <;> simp
        omega
      · obtain ⟨rfl, y⟩ := y
        have ex : v = x := Option.some.inj (v1.symm.trans (y vs2 (SqL.of d2)))
        subst ex
        have : fuelO = 100000 := rfl
        exact lc_turn k2 v2 hts hv wa (decide_eq_true (by omega)) n2 fun F' H' q1 q2 q3 => ⟨F', q1, q2, q3⟩
theorem pd_lcO (i : Nat) {x : Str} {p1 : Pos} {pos : Pos} {elt tg : Expr} {ifs : List Expr} {scope : Scope} {own : List (Str × Nat)} {ts : List Nat} {g : Dg} {tt : Dt} {te : De} (hN : X.N.Nodup) (ok : BlkOk X.N X.env.scope scope own)
    (hg : ∀ (s : Shared) (H : Hp) (Ca : Addr) (cl : List (Str × Addr)) (fp : List Addr), PG (X.blk s H scope (compEnvC scope cl Ca X.env) fp) tg (upG (nox C) ts g)) (ht : ∀ (s : Shared) (H : Hp) (Ca : Addr) (cl : List (Str × Addr)) (fp : List Addr), PTs (X.blk s H scope (compEnvC scope cl Ca X.env) fp) ifs (upT (nox C) tt))
    (he : ∀ (s : Shared) (H : Hp) (Ca : Addr) (cl : List (Str × Addr)) (fp : List Addr), PE (X.blk s H scope (compEnvC scope cl Ca X.env) fp) elt (up (nox C) te)) (hi : X.N[i]? = some x := by rfl) (hv : Vis X.env.scope x := by first | exact Or.inl rfl | exact Or.inr (Or.inl rfl) | exact Or.inr (Or.inr rfl)) (hd : (x == ("__debug__" : Str)) = false := by decide)
    (hcd : (x == ("__classdict__" : Str)) = false := by decide) (hK : C.K = X.K := by rfl) (hts : ∀ t ∈ ts, t ∈ own.map (·.2) := by decide) (hc : X.calm = true := by rfl) (hs : ∀ z, foldedSetIterable (.Name x p1) X.env z = pure z := by intro _; rfl) :
    PE X (.ListComp elt [⟨tg, .Name x p1, ifs, 0⟩] scope pos) (up C (dLcO i (own.map (·.2)) g tt te)) := pe_weak (pe_lc hc hN (pi_list (pe_var hi hv hd hcd)) ok hg ht he hs) (by rw [← hK]; exact rf_lcO hts)
theorem pds_setLcO (j i : Nat) {x y : Str} {p1 py spos pos : Pos} {elt tg : Expr} {ifs : List Expr} {scope : Scope} {own : List (Str × Nat)} {ts : List Nat} {g : Dg} {tt : Dt} {te : De} (hN : X.N.Nodup) (ok : BlkOk X.N X.env.scope scope own)
    (hg : ∀ (s : Shared) (H : Hp) (Ca : Addr) (cl : List (Str × Addr)) (fp : List Addr), PG (X.blk s H scope (compEnvC scope cl Ca X.env) fp) tg (upG (nox C) ts g)) (ht : ∀ (s : Shared) (H : Hp) (Ca : Addr) (cl : List (Str × Addr)) (fp : List Addr), PTs (X.blk s H scope (compEnvC scope cl Ca X.env) fp) ifs (upT (nox C) tt))
    (he : ∀ (s : Shared) (H : Hp) (Ca : Addr) (cl : List (Str × Addr)) (fp : List Addr), PE (X.blk s H scope (compEnvC scope cl Ca X.env) fp) elt (up (nox C) te)) (hsw : swapsWith (.ListComp elt [⟨tg, .Name x p1, ifs, 0⟩] scope pos) (some (.Name y py)) spos.line X.env = pure true) (hy : X.N[j]? = some y := by rfl) (hyl : X.env.scope.names.lookup y = some .local := by rfl)
    (hi : X.N[i]? = some x := by rfl) (hv : Vis X.env.scope x := by first | exact Or.inl rfl | exact Or.inr (Or.inl rfl) | exact Or.inr (Or.inr rfl)) (hd : (x == ("__debug__" : Str)) = false := by decide)
    (hcd : (x == ("__classdict__" : Str)) = false := by decide) (hK : C.K = X.K := by rfl) (hts : ∀ t ∈ ts, t ∈ own.map (·.2) := by decide) (hc : X.calm = true := by rfl) (hs : ∀ z, foldedSetIterable (.Name x p1) X.env z = pure z := by intro _; rfl) :
    PS X (.Assign [.Name y py] (.ListComp elt [⟨tg, .Name x p1, ifs, 0⟩] scope pos) spos) (ups C (dAsg j (dLcO i (own.map (·.2)) g tt te))) := ps_weak (ps_setLc hc hN hy hyl hsw (pi_list (pe_var hi hv hd hcd)) ok hg ht he hs) (rf_asg (by rw [← hK]; exact rf_lcO hts))
end
/-! ### steps -/
theorem compO_from {i : Nat} {f : D → DS → R (Option D)} {δ : DS} {s : Sl} {ds : List D} {φ : D → Option D} (hl : lstAt i δ = some (s, ds)) (h : ∀ d ∈ ds, f d δ = .ok (φ d) δ) : ∀ (n j : Nat), ds.length - j < n → compO i f n j δ = .ok ((ds.drop j).filterMap φ) δ
  | 0, _, hn => absurd hn (Nat.not_lt_zero _)
  | n + 1, j, hn => by
    unfold compO
    simp only [hl]
    cases e : ds[j]? with
    | none =>
      have := List.getElem?_eq_none_iff.mp e
      rw [List.drop_of_length_le this]
      rfl
    | some d =>
      have hj := (List.getElem?_eq_some_iff.mp e)
      obtain ⟨hj, rfl⟩ := hj
      simp only [h _ (List.getElem_mem hj)]
      rw [compO_from hl h n (j + 1) (by omega), List.drop_eq_getElem_cons hj, List.filterMap_cons]
      cases φ ds[j] <;> rfl
theorem r_lcO {i : Nat} {vs : List Nat} {g : Dg} {tt : Dt} {te : De} {δ : DS} {s : Sl} {ds : List D} {φ : D → Option D} (hl : lstAt i δ = some (s, ds)) (h0 : freeAt vs δ = true) (hn : ds.length < 100000) (h : ∀ d ∈ ds, turnL vs g tt te d δ = .ok (φ d) δ) : dLcO i vs g tt te δ = .ok (.own (.lst (ds.filterMap φ))) δ := by
  unfold dLcO
  have e := compO_from (f := turnL vs g tt te) hl h fuelO 0 (by unfold fuelO; omega)
  rw [List.drop_zero] at e
  simp only [h0, okIf, e]
end DL

set_option Elab.async false
set_option linter.all false
set_option maxRecDepth 100000
set_option autoImplicit false
/-! == of texts of any kind -/
namespace DL
open PySem PySem.Spec PyProof.Rows L2
variable [Tabs]
section
variable {X : Cx} {C : Cf} {a b : Expr} {ta tb : De} {pos : Pos}
def fEqS : D → D → Option Vl
  | .str x, .str y => some (.fz (.bool (decide (x = y))))
  | _, _ => none
theorem o_eqS {K : PySem.W.Frag} : Op2 K rEq fEqS := by
  intro G δ σ F H x y d e z Q hK k hx hy ez q
  cases d with
  | str i =>
    cases e with
    | str j =>
      have e1 := hx.str
      have e2 := hy.str
      subst e1 e2
      cases ez
      refine ⟨rfl, ?_⟩
      have := q.fz k (.bl _)
      rw [show (decide (V.str i = V.str j)) = decide (i = j) from by simp]
      exact this
    | _ => cases ez
  | _ => cases ez
theorem pd_eqS (ha : PE X a (up C ta)) (hb : PE X b (up C tb)) : PE X (.Compare a [.Eq] [b] pos) (up C (dBin fEqS ta tb)) := pd_cmp op_eq o_eqS ha hb (nomark _)
theorem ptd_eqS (ha : PE X a (up C ta)) (hb : PE X b (up C tb)) : PT X (.Compare a [.Eq] [b] pos) (upT C (dTest (dBin fEqS ta tb))) := pdt_cmp op_eq o_eqS ha hb (nomark _)
theorem eqS_same (x : Str) : fEqS (.str x) (.str x) = some (.fz (.bool true)) := by
  show some (Vl.fz (.bool (decide (x = x)))) = _
  rw [decide_eq_true rfl]
end
end DL

set_option Elab.async false
set_option linter.all false
set_option maxRecDepth 100000
set_option autoImplicit false
/-! xs.index(thing) of a list of data in which it stands -/
namespace DL
open PySem PySem.Spec PyProof.Rows L2
variable [Tabs]
section
variable {X : Cx} {C : Cf} {e : Expr} {ta : De} {pos : Pos}
/-- the first place of an equal one -/
def idxD (d : D) (ds : List D) : Option Nat := ds.findIdx? fun z => PyData.eqv z d
def idxL (i : Nat) (d : D) (δ : DS) : R Vl := match lstW i δ with
  | some ds => okIf (SeqAt.shaped d && SeqAt.shaped (.list ds)) (match idxD d ds with
    | some j => .ok (.fz (.int (j : Nat))) δ
    | none => .bad)
  | none => .bad
def dIdxAt (i : Nat) (a : De) : De := fun δ => okIf (lstW i δ).isSome ((a δ).bind fun x δ1 => match x with
  | .fz d => idxL i d δ1
  | _ => .bad)
theorem idxL_fin {G : Ct} {i : Nat} {d : D} {δ : DS} {σ : L2.St} {F : Hp} {Q : VK} (h : finA G (WV G σ) (idxL i d δ) σ F Q) : ∃ ds j, lstW i δ = some ds ∧ SeqAt.shaped d = true ∧ SeqAt.shaped (.list ds) = true ∧ idxD d ds = some j ∧ finA G (WV G σ) (.ok (.fz (.int (j : Nat))) δ) σ F Q := by
  unfold idxL at h
  cases e : lstW i δ with
  | none => rw [e] at h; exact h.elim
  | some ds =>
    rw [e] at h
    simp only at h
    obtain ⟨z, h⟩ := okIf_fin h
    rw [Bool.and_eq_true] at z
    cases e3 : idxD d ds with
    | none => rw [e3] at h; exact h.elim
    | some j => rw [e3] at h; exact ⟨ds, j, rfl, z.1, z.2, e3, h⟩
theorem pd_idxAt (hu : X.A.units + 65 < cLine) (i : Nat) {x : Str} {p1 p2 p3 : Pos} (ha : PE X e (up C ta)) (hN : X.N[i]? = some x := by rfl) (hv : Vis X.env.scope x := by first | exact Or.inl rfl | exact Or.inr (Or.inl rfl) | exact Or.inr (Or.inr rfl)) (hd : (x == ("__debug__" : Str)) = false := by decide)
    (hcd : (x == ("__classdict__" : Str)) = false := by decide) (hK : C.K = X.K := by rfl)
    (hcall : X.A.units + 65 < cLine → ∀ (to te : TE), PE X (.Name x p1) to → PE X e te → PE X (.Call (.Attribute (.Name x p1) "index" p2) [e] [] p3) (tBM X.K "list" (rIndexD X.K) to (tCons te tNil)) := by exact fun hu0 _ _ h1 h2 => pe_bm PySem.F.plainAttrs_list PySem.F.slot_list_index PySem.F.type_list_index (mt_indexD hu0) h1 (pa_cons h2 pa_nil)) :
    PE X (.Call (.Attribute (.Name x p1) "index" p2) [e] [] p3) (up C (dIdxAt i ta)) := by
  refine pe_weak (hcall hu _ _ (pe_var hN hv hd hcd) ha) fun σ H Q ⟨G, δ, F, hC, k, h⟩ => ?_
  subst hC
  obtain ⟨z, h⟩ := okIf_fin h
  obtain ⟨es, hes⟩ := Option.isSome_iff_exists.mp z
  obtain ⟨p, vs, e1, e2, _⟩ := lstW_at k hes
  refine ⟨.ref p, e1, .inl ⟨rfl, vs, SqL.of e2⟩, G, δ, F, rfl, k, finA_bind h fun y δ1 v F1 H1 k1 g1 w1 h1 => ?_⟩
  cases y with
  | loc _ => exact h1.elim
  | own _ => exact h1.elim
  | fz d =>
    obtain ⟨ds, j, q1, s1, s2, q3, h2⟩ := idxL_fin h1
    obtain ⟨p', vs', a1, a2, a4⟩ := lstW_at k1 q1
    rw [e1] at a1
    cases a1
    obtain ⟨z, hz, hm⟩ := List.findIdx?_eq_some_iff_getElem.mp q3
    have w1 : Dp G.K F1 v d := w1
    refine ⟨p, v, d, ds, j, ds[j], rfl, rfl, ?_, ?_, s2, s1, List.getElem?_eq_getElem z, hz, fun m z' hm' hz' => ?_, h2 _ F1 H1 k1 (Same.refl F1) (.int _)⟩
    · rw [← hK]
      exact dp_lib _ _ (SeqAt.canLay_of_shaped s2) (.lst a2 (dpa_mono k1.fh _ _ a4))
    · rw [← hK]
      exact dp_lib _ _ (SeqAt.canLay_of_shaped s1) (dp_mono k1.fh _ _ w1)
    · obtain ⟨hl, e⟩ := List.getElem?_eq_some_iff.mp hz'
      subst e
      have := hm m hm'
      simpa using this
end
theorem r_idx {i : Nat} {a : De} {δ δ1 : DS} {ds : List D} {d : D} {j : Nat} (ha : a δ = .ok (.fz d) δ1) (h0 : (lstW i δ).isSome = true) (h1 : lstW i δ1 = some ds) (h2 : (SeqAt.shaped d && SeqAt.shaped (.list ds)) = true) (h3 : idxD d ds = some j) : dIdxAt i a δ = .ok (.fz (.int (j : Nat))) δ1 := by
  unfold dIdxAt
  simp only [h0, okIf, ha, R.bind]
  unfold idxL
  simp only [h1, h2, h3, okIf]
end DL

set_option Elab.async false
set_option linter.all false
set_option maxRecDepth 100000
set_option autoImplicit false
/-! min of a list or a tuple of alike data -/
namespace DL
open PySem PySem.Spec PyProof.Rows L2
variable [Tabs]
section
variable {X : Cx} {C : Cf} {e : Expr} {ta : De} {pos : Pos}
/-- what min can be asked of -/
def okMin (ds : List D) : Bool := (ds.all fun x => ds.all fun y => W.alike x y) && (decide (PyData.depthAll ds ≤ 60) && (PyData.canLayAll0 ds && ds.all fun x => match x with
  | .none => false
  | _ => true))
def minOf : List D → Option Vl
  | [] => none
  | d :: ds => okO (okMin (d :: ds)) (some (.fz (W.minD d ds)))
def fMinL : D → Option Vl
  | .list ds => minOf ds
  | .tuple ds => minOf ds
  | _ => none
theorem okMin_is {ds : List D} (h : okMin ds = true) : W.AlikeAll ds ∧ PyData.depthAll ds ≤ 60 ∧ PyData.canLayAll0 ds = true := by
  unfold okMin at h
  simp only [Bool.and_eq_true, decide_eq_true_eq, List.all_eq_true] at h
  obtain ⟨h1, h2, h3, h4⟩ := h
  exact ⟨⟨h1, fun x hx e => by subst e; exact absurd (h4 _ hx) (by decide)⟩, h2, h3⟩
def rMinA (K : PySem.W.Frag) : List V → Hp → VK → Prop := fun vs H Q => ∃ (a : Addr) (us : List V) (d : D) (ds : List D), vs = [V.ref a] ∧ (SqL K H a us ∨ SqT K H a us) ∧ L2.DpAll K H us (d :: ds) ∧ okMin (d :: ds) = true ∧ ∀ (i : Nat) u, us[i]? = some u → (d :: ds)[i]? = some (W.minD d ds) → Q u H
theorem vals_at : ∀ {us : List V} {vs : List Value}, Vals us vs → ∀ {i : Nat} {v : Value}, vs[i]? = some v → ∃ u, us[i]? = some u ∧ RelV u v
  | _, _, .nil, i, v, h => by simp at h
  | _, _, .cons r _, 0, v, h => by simp at h; subst h; exact ⟨_, rfl, r⟩
  | _, _, .cons _ t, i + 1, v, h => by
    obtain ⟨u, h1, h2⟩ := vals_at t (i := i) (by simpa using h)
    exact ⟨u, by simpa using h1, h2⟩
theorem ldpa_at {K : PySem.W.Frag} {F : Hp} : ∀ {us : List V} {ds : List D} {i : Nat} {u : V}, L2.DpAll K F us ds → us[i]? = some u → ∃ d, ds[i]? = some d ∧ L2.Dp K F u d
  | _, _, _, _, .nil, e => by simp at e
  | _, _, 0, _, .cons h _, e => by simp at e; subst e; exact ⟨_, rfl, h⟩
  | _, _, i + 1, _, .cons _ t, e => by
    obtain ⟨d, h1, h2⟩ := ldpa_at (i := i) t (by simpa using e)
    exact ⟨d, by simpa using h1, h2⟩
theorem call_minA (hc : X.calm = true) (hu : X.A.units + 64 < cLine) : CallR X (.builtin "min") (rMinA X.K) := by
  intro pins s σ H vs us Q I r h
  obtain ⟨a, ws, d, ds, rfl, hs, hd, ok, q⟩ := h
  obtain ⟨al, dep, _⟩ := okMin_is ok
  rw [Vals.ref1 r]
  have room : X.A.units + 1 + PyData.depthAll (d :: ds) < cLine := by omega
  have fin : ∀ {its : List Value}, Vals ws its → ∀ (i : Nat) (v : Value) (h' : Heap) (bs : List Addr), its[i]? = some v → Reads h' v (W.minD d ds) bs → (kp : ∀ b o, s.heap.get? b = some o → h'.get? b = some o) → ∃ u, RelV u v ∧ Q u H := fun rv i v h' bs hv rd kp => by
    obtain ⟨u, hu1, hu2⟩ := vals_at rv hv
    obtain ⟨e, he1, he2⟩ := ldpa_at hd hu1
    obtain ⟨as, ra⟩ := L2.Dp.reads I e u v he2 hu2
    have e1 := (reads_det (fun b o hb _ => kp b o hb) ra rd).1
    subst e1
    exact ⟨u, hu2, q i u hu1 he1⟩
  rcases hs with hs | hs
  · obtain ⟨its, rv, hl, _⟩ := I.list hs
    obtain ⟨as, ra⟩ := L2.Dp.readsAll I (d :: ds) _ _ hd rv
    refine PySem.W.min_list_data (x := d) (xs := ds) (I.ok.hd hc) hl.isList ra al room fun i v h' tk bs hv rd kp => ?_
    obtain ⟨u, r1, q1⟩ := fin rv i v h' bs (by simpa using hv) rd kp
    exact ⟨u, H, I.kept kp, r1, q1⟩
  · obtain ⟨its, rv, hl, _⟩ := I.tuple hs
    obtain ⟨as, ra⟩ := L2.Dp.readsAll I (d :: ds) _ _ hd rv
    refine PySem.W.min_tuple_data (x := d) (xs := ds) (I.ok.hd hc) hl ra al room fun i v h' tk bs hv rd kp => ?_
    obtain ⟨u, r1, q1⟩ := fin rv i v h' bs (by simpa using hv) rd kp
    exact ⟨u, H, I.kept kp, r1, q1⟩
theorem b_minA {K : PySem.W.Frag} : B1 K (rMinA K) fMinL := by
  intro G δ σ F H x d z Q hK k hx ez q
  subst hK
  have go : ∀ ds, minOf ds = some z → ∃ e es, ds = e :: es ∧ okMin ds = true ∧ z = .fz (W.minD e es) := fun ds e => by
    cases ds with
    | nil => cases e
    | cons e1 es =>
      obtain ⟨e2, e3⟩ := okO_some e
      cases e3
      exact ⟨e1, es, rfl, e2, rfl⟩
  have fin : ∀ {ws : List V} {e : D} {es : List D}, DpAll G.K F ws (e :: es) → z = .fz (W.minD e es) → ∀ (i : Nat) u, ws[i]? = some u → (e :: es)[i]? = some (W.minD e es) → Q u H := fun hw hz i u hu hi => by
    subst hz
    obtain ⟨d', h1, h2⟩ := dpa_get' hw hu
    rw [hi] at h1
    cases h1
    exact q.fz k h2
  cases d with
  | list ds =>
    obtain ⟨p, vs, rfl, h1, h2⟩ := hx.list k.fh
    obtain ⟨e, es, rfl, ok, hz⟩ := go ds ez
    exact ⟨_, vs, e, es, rfl, .inl (SqL.of h1), dpa_lib _ _ (okMin_is ok).2.2 (dpa_mono k.fh _ _ h2), ok, fin h2 hz⟩
  | tuple ds =>
    obtain ⟨p, vs, rfl, h1, h2⟩ := hx.tup
    obtain ⟨e, es, rfl, ok, hz⟩ := go ds ez
    exact ⟨_, vs, e, es, rfl, .inr (SqT.of (k.fh _ _ h1)), dpa_lib _ _ (okMin_is ok).2.2 (dpa_mono k.fh _ _ h2), ok, fin h2 hz⟩
  | _ => cases ez
theorem pd_minL {p : Pos} (hm : X.mg "min" = none) (hu : X.A.units + 64 < cLine) (ha : PE X e (up C ta)) (hc : X.calm = true := by rfl) (hK : C.K = X.K := by rfl) (hcall : ∀ (r : List V → Hp → VK → Prop) (te : TE), X.mg "min" = none → CallR X (.builtin "min") r → PE X e te → PE X (.Call (.Name "min" p) [e] [] pos) (tCB r (tCons te tNil)) := by exact fun _ _ hm0 h1 h2 => pe_callB h1 (by rfl) hm0 (by decide +kernel) (pa_cons h2 pa_nil)) :
    PE X (.Call (.Name "min" p) [e] [] pos) (up C (dUn fMinL ta)) := pe_weak (hcall _ _ hm (call_minA hc hu) ha) (by rw [← hK]; exact rf_b1 b_minA)
end
/-! ### what the least is -/
theorem toks_pair (a b : Int) : W.keyToks (.tuple [.int a, .int b]) = [.inl 1, .inl a, .inl 1, .inl b, .inl 0] := by
  simp [W.keyToks, W.keyToksAll]
end DL

set_option Elab.async false
set_option linter.all false
set_option maxRecDepth 100000
set_option autoImplicit false
/-! steps once more: what is known is taken first, states are told plainly -/
namespace DL
open PySem PySem.Spec L2
variable [Tabs]
theorem s_ifF {t : Dt} {s : Ds} {δ δ1 : DS} (ht : t δ = .ok false δ1) : dIfS t s dSkip δ = .ok .nx δ1 := s_if ht (p_f rfl s_skip)
theorem kp_fzE (d : D) (δ : DS) : kp (.fz d) δ = .ok d δ := rfl
theorem kp_ownE (ds : List D) (δ : DS) : kp (.own (.lst ds)) δ = .ok (.list ds) δ := rfl
theorem kp_locF {i : Nat} {d : D} {δ : DS} (h : δ[i]? = some (.fz d)) : kp (.loc i) δ = .ok d δ := by
  unfold kp
  simp only [h]
theorem kp_locO {i : Nat} {ds : List D} {δ δ1 : DS} (h : δ[i]? = some (.own (.lst ds))) (hd : δ.set i (.fz (.list ds)) = δ1) : kp (.loc i) δ = .ok (.list ds) δ1 := by
  subst hd
  unfold kp
  simp only [h]
theorem vw_fz (d : D) (δ : DS) : vw δ (fzT (.fz d)) = some d := rfl
theorem vw_ownE (ds : List D) (δ : DS) : vw δ (fzT (.own (.lst ds))) = some (.list ds) := rfl
end DL

set_option Elab.async false
set_option linter.all false
set_option maxRecDepth 100000
set_option autoImplicit false
/-! caught errors as data: try .. except RideError as e: caught = e; isinstance of them; defs that may raise, called where they do not -/
namespace DL
open PySem PySem.Spec PyProof.Rows L2
variable [Tabs]
/-! ### a def that may raise, called where it does not -/
section
variable {P : Program} {w : World} {K : PySem.W.Frag} {mg : Str → Option Value} {base : Heap}
theorem fn_calm {k : Nat} {f : Addr} {fd : FuncData} {ps : List Str} {den : List Sl → R Vl} (F : FnOk P w K mg base (L2.CX P w) k f fd ps (dspX K mg den)) : FnOk P w K mg base CX0 k f fd ps (dsp K fun as => noEx as (den as)) := by
  have conv : ∀ vs H Q E, dsp K (fun as => noEx as (den as)) vs H Q E → dspX K mg den vs H Q E0 := fun vs H Q E h => by
    obtain ⟨F, as, fh, wa, h⟩ := dsp_trim (den := den) h
    refine ⟨F, as, fh, wa, ?_⟩
    cases e : den as with
    | ok r δ =>
      have h : dspM K F as vs H Q E (noX (den as)) := h
      rw [e] at h
      exact h
    | ex c δ =>
      have h : dspM K F as vs H Q E (noX (den as)) := h
      rw [e] at h
      exact h.elim
    | bad =>
      have h : dspM K F as vs H Q E (noX (den as)) := h
      rw [e] at h
      exact h.elim
  refine ⟨fun vs H Q E h => F.len vs H Q E0 (conv _ _ _ _ h), fun A outer s H args us vs Q E hr he hb hv hs => ?_⟩
  refine codeAny_mono (F.run A outer s H args us vs Q E0 hr he hb hv (conv _ _ _ _ hs)) fun r s' c => ?_
  cases r with
  | ok f => cases f <;> exact c
  | error e =>
    obtain ⟨a, B, H', cls, d, _, _, _, _, _, _, _, z⟩ := c
    exact z
def nx (den : List Sl → R Vl) : List Sl → R Vl := fun as => noEx as (den as)
theorem cal_calm {x : Str} {ps : List Str} {k : Nat} {den : List Sl → R Vl} (c : CalX P w K mg base k x ps den) : Cal P w K mg base k x ps (nx den) := by
  obtain ⟨f, fd, F, a, b, d⟩ := c.ex
  exact ⟨f, fd, fn_calm F, a, b, d⟩
end
/-! ### what stands of the classes -/
/-- x: the errors that may be met; y: the classes that are asked for -/
def errB (RN YN : List Str) (K : PySem.W.Frag) : Bool := RN.all fun x =>
  (He.eqO (PySem.W.findIn K (.ref (He.ga K x)) "__getattribute__") (some (some (.builtin "BaseException.__getattribute__"))) && (He.eqO (PySem.W.findIn K (.ref (He.ga K x)) "__getattr__") (some none) && (decide (PySem.W.subIn K (.ref (He.ga K x)) (.type "BaseException") = some true) && (PySem.W.hasDictIn K (He.ga K x) &&
    (He.eqO (PySem.W.findIn K (.ref (He.ga K x)) "__class__") (some (some (.builtin "object.__class__"))) && (He.eqO (PySem.W.specialIn K (.builtin "object.__class__") "__get__") (some (some (.builtin "getset_descriptor.__get__"))) && (decide (PySem.W.takesIn K (.builtin "object.__class__") = some true) && decide (PySem.W.mroIn K (He.ga K x) (.type "object") = some true)))))))) &&
  (decide (PySem.W.kitOne K (.ref (He.ga K x)) (.type "ValueError") = some true) && (decide (PySem.W.exmOne K (.ref (He.ga K x)) (.ref (He.ga K "RideError")) = some true) && YN.all fun y => decide (PySem.W.kitOne K (.ref (He.ga K x)) (.ref (He.ga K y)) = some (decide (x = y)))))
structure ErrT (K : PySem.W.Frag) (mg : Str → Option Value) (RN YN : List Str) : Prop where
  b : errB RN YN K = true
  r : ∀ x ∈ RN, mg x = some (.ref (He.ga K x))
  y : ∀ x ∈ YN, mg x = some (.ref (He.ga K x))
  e : mg "RideError" = some (.ref (He.ga K "RideError"))
theorem ErrT.at {K : PySem.W.Frag} {mg : Str → Option Value} {RN YN : List Str} (T : ErrT K mg RN YN) {x : Str} (h : x ∈ RN) : ExcC K (He.ga K x) ∧ PySem.W.kitOne K (.ref (He.ga K x)) (.type "ValueError") = some true ∧ PySem.W.exmOne K (.ref (He.ga K x)) (.ref (He.ga K "RideError")) = some true ∧ ∀ y ∈ YN, PySem.W.kitOne K (.ref (He.ga K x)) (.ref (He.ga K y)) = some (decide (x = y)) := by
  have z := List.all_eq_true.mp T.b x h
  simp only [Bool.and_eq_true, decide_eq_true_eq, List.all_eq_true] at z
  obtain ⟨⟨a1, a2, a3, a4, a5, a6, a7, a8⟩, b1, b2, b3⟩ := z
  exact ⟨⟨He.eqO_ok a1, He.eqO_ok a2, a3, a4, He.eqO_ok a5, He.eqO_ok a6, a7, a8⟩, b1, b2, b3⟩
/-! ### try -/
def dTry (RN : List Str) (i j : Nat) (sb : Ds) : Ds := fun δ => match sb δ with
  | .ok .nx δ1 => .ok .nx δ1
  | .ex (.str x 0) δ1 => okIf (decide (x ∈ RN) && (okSet δ1 i && okSet δ1 j)) (.ok .nx ((δ1.set i .no).set j (.fz (excD x))))
  | _ => .bad
section
variable {X : Cx} {C : Cf} {sb : Ds} {st1 : Stmt} {e es : Expr} {ta : De} {pos : Pos} {RN YN : List Str}
theorem pds_try (i j : Nat) (T : ErrT X.K X.mg RN YN)
    (h1 : ∀ Cr, X.mg "RideError" = some (.ref Cr) → PS X st1 (fun D σ H => ups (exC X.K X.mg (wKeep X.K (.ref Cr) i (tAsg (tVar i) (gName j)) D)) sb D σ H)) (hij : i ≠ j := by decide) (hC : C.K = X.K := by rfl) : PS X st1 (ups C (dTry RN i j sb)) := by
  refine ps_weak (h1 _ T.e) fun D σ H ⟨G, δ, F, hG, k, h⟩ => ?_
  subst hG
  have hK : ∀ W, (exC X.K X.mg W).K = G.C.K := fun W => hC.symm
  refine ⟨⟨exC X.K X.mg _, G.F0, G.H0, G.M⟩, δ, F, rfl, k.swap (hK _), ?_⟩
  unfold dTry at h
  cases e : sb δ with
  | bad => rw [e] at h; exact h.elim
  | ok o δ1 =>
    rw [e] at h
    cases o with
    | bk => exact h.elim
    | ct => exact h.elim
    | rt v => exact h.elim
    | nx =>
      intro σ' F' H' k' ff
      exact h σ' F' H' (k'.unswap (hK _)) ff
  | ex c δ1 =>
    rw [e] at h
    cases c with
    | str x t =>
      cases t with
      | succ t => exact h.elim
      | zero =>
        obtain ⟨z, h⟩ := okIf_finS h
        rw [Bool.and_eq_true, Bool.and_eq_true] at z
        obtain ⟨z1, z2, z3⟩ := z
        have hx : x ∈ RN := of_decide_eq_true z1
        intro σ' F' H' k' ff
        have k1 := k'.unswap (hK _)
        refine ⟨x, He.ga X.K x, rfl, T.r x hx, rfl, (T.at hx).2.2.1, fun a na => ?_⟩
        obtain ⟨s1, f1, f2⟩ := okSet_some z2
        obtain ⟨s2, g1, g2⟩ := okSet_some z3
        obtain ⟨l1, l2⟩ := k1.lt f1
        obtain ⟨l3, l4⟩ := k1.lt g1
        refine ⟨.ref a, by rw [List.getElem?_set_self l2], ?_⟩
        have es : ((σ'.set i (some (.ref a))).set j (some (.ref a))).set i none = (σ'.set i none).set j (some (.ref a)) := by
          rw [List.set_comm _ _ hij.symm, List.set_set]
        have k2 := (k1.setNo (x := none) f1 f2).newFz (o := ExH (.ref (He.ga X.K x)) a) na
        have w : Dp G.K (upd F' a (ExH (.ref (He.ga X.K x)) a)) (.ref a) (excD x) := .exc x (by rw [show G.K = X.K from hC]; exact upd_same)
        have k3 := k2.setFz (i := j) (s := s2) (by rw [List.getElem?_set_ne hij]; exact g1) g2 w
        rw [← es] at k3
        exact h _ _ _ k3 (ff.trans (same_upd (k1.newF na)))
    | _ => exact h.elim
/-! ### isinstance -/
theorem exc_at {K : PySem.W.Frag} {F H : Hp} {v : V} {x : Str} (h : Vw K F H v (excD x)) : ∃ a, v = .ref a ∧ F a = some (ExH (.ref (He.ga K x)) a) := by
  rcases h with h | ⟨p, vs, ds', rfl, e, h1, h2⟩
  · cases h with
    | exc _ a => exact ⟨_, rfl, a⟩
  · cases e
def fIsV (RN : List Str) : D → Option Vl
  | .dict [(.str x, .none)] => okO (decide (x ∈ RN)) (some (.fz (.bool true)))
  | _ => none
def fIsE (RN : List Str) (Y : Str) : D → Option Vl
  | .dict [(.str x, .none)] => okO (decide (x ∈ RN)) (some (.fz (.bool (decide (x = Y)))))
  | _ => none
def fIsEs (RN : List Str) (Ys : List Str) : D → Option Vl
  | .dict [(.str x, .none)] => okO (decide (x ∈ RN)) (some (.fz (.bool (Ys.any fun y => decide (x = y)))))
  | _ => none
theorem isV_some {RN : List Str} {d : D} {z : Vl} (h : fIsV RN d = some z) : ∃ x, d = excD x ∧ x ∈ RN ∧ z = .fz (.bool true) := by
  unfold fIsV at h
  split at h
  · rename_i x
    obtain ⟨a, b⟩ := okO_some h
    cases b
    exact ⟨x, rfl, of_decide_eq_true a, rfl⟩
  · cases h
theorem isE_some {RN : List Str} {Y : Str} {d : D} {z : Vl} (h : fIsE RN Y d = some z) : ∃ x, d = excD x ∧ x ∈ RN ∧ z = .fz (.bool (decide (x = Y))) := by
  unfold fIsE at h
  split at h
  · rename_i x
    obtain ⟨a, b⟩ := okO_some h
    cases b
    exact ⟨x, rfl, of_decide_eq_true a, rfl⟩
  · cases h
theorem isEs_some {RN Ys : List Str} {d : D} {z : Vl} (h : fIsEs RN Ys d = some z) : ∃ x, d = excD x ∧ x ∈ RN ∧ z = .fz (.bool (Ys.any fun y => decide (x = y))) := by
  unfold fIsEs at h
  split at h
  · rename_i x
    obtain ⟨a, b⟩ := okO_some h
    cases b
    exact ⟨x, rfl, of_decide_eq_true a, rfl⟩
  · cases h
/-- isinstance(e, ValueError) -/
theorem pd_isV {p p2 : Pos} (T : ErrT X.K X.mg RN YN) (hm : X.mg "isinstance" = none) (hv : X.mg "ValueError" = none) (ha : PE X e (up C ta)) (hK : C.K = X.K := by rfl)
    (hcall : ∀ (r : List V → Hp → VK → Prop) (te : TE), X.mg "isinstance" = none → X.mg "ValueError" = none → CallR X (.builtin "isinstance") r → PE X e te → PE X (.Call (.Name "isinstance" p) [e, .Name "ValueError" p2] [] pos) (tCB r (tCons te (tCons (tC (.ty "ValueError")) tNil))) := by exact fun _ _ hm0 hv0 h1 h2 => pe_callB h1 (by rfl) hm0 (by decide +kernel) (pa_cons h2 (pa_cons (pe_bltn (by rfl) hv0 (by decide +kernel) rfl) pa_nil))) :
    PE X (.Call (.Name "isinstance" p) [e, .Name "ValueError" p2] [] pos) (up C (dUn (fIsV RN) ta)) := pe_weak (hcall _ _ hm hv call_isX ha) fun σ H Q ⟨G, δ, F, hC, k, h⟩ => by
  subst hC
  refine ⟨G, δ, F, rfl, k, finA_bind h fun x δ1 v F1 H1 k1 g1 w1 h1 => ?_⟩
  obtain ⟨F2, k2, g2, w2⟩ := k1.freeze w1
  obtain ⟨d, z, e1, e3, q⟩ := lift1_fin (finA_mono h1 g2)
  obtain ⟨n, rfl, hn, rfl⟩ := isV_some e3
  obtain ⟨a, rfl, ha⟩ := exc_at (k2.view w2 e1)
  rw [show G.K = X.K from hK] at ha
  exact ⟨a, _, .ty "ValueError", _, true, rfl, k2.fh _ _ ha, (T.at hn).1, fun u r => by cases r; rfl, (T.at hn).2.1, (q H1).fz k2 (.bl _)⟩
/-- isinstance(e, Y) -/
theorem pd_isE {p p2 : Pos} (Y : Str) (T : ErrT X.K X.mg RN YN) (hY : Y ∈ YN) (hm : X.mg "isinstance" = none) (ha : PE X e (up C ta)) (hK : C.K = X.K := by rfl)
    (hcall : ∀ (r : List V → Hp → VK → Prop) (te : TE) (c : Addr), X.mg "isinstance" = none → X.mg Y = some (.ref c) → CallR X (.builtin "isinstance") r → PE X e te → PE X (.Call (.Name "isinstance" p) [e, .Name Y p2] [] pos) (tCB r (tCons te (tCons (tC (.ref c)) tNil))) := by exact fun _ _ _ hm0 hy0 h1 h2 => pe_callB h1 (by rfl) hm0 (by decide +kernel) (pa_cons h2 (pa_cons (pe_glob (by rfl) hy0 rfl) pa_nil))) :
    PE X (.Call (.Name "isinstance" p) [e, .Name Y p2] [] pos) (up C (dUn (fIsE RN Y) ta)) := pe_weak (hcall _ _ _ hm (T.y Y hY) call_isX ha) fun σ H Q ⟨G, δ, F, hC, k, h⟩ => by
  subst hC
  refine ⟨G, δ, F, rfl, k, finA_bind h fun x δ1 v F1 H1 k1 g1 w1 h1 => ?_⟩
  obtain ⟨F2, k2, g2, w2⟩ := k1.freeze w1
  obtain ⟨d, z, e1, e3, q⟩ := lift1_fin (finA_mono h1 g2)
  obtain ⟨n, rfl, hn, rfl⟩ := isE_some e3
  obtain ⟨a, rfl, ha⟩ := exc_at (k2.view w2 e1)
  rw [show G.K = X.K from hK] at ha
  exact ⟨a, _, .ref (He.ga X.K Y), _, _, rfl, k2.fh _ _ ha, (T.at hn).1, fun u r => by cases r; rfl, (T.at hn).2.2.2 Y hY, (q H1).fz k2 (.bl _)⟩
/-- isinstance(e, (Y1, Y2, ..)) -/
def rIsXs (K : PySem.W.Frag) : List V → Hp → VK → Prop := fun xs H Q => ∃ (a Cl tp : Addr) (cs : List V) (us : List Value) (b : Bool), xs = [.ref a, .ref tp] ∧ H a = some (ExH (.ref Cl) a) ∧ ExcC K Cl ∧ H tp = some (.tup cs) ∧ Paired ClsV cs us ∧ PySem.W.kitAny K (.ref Cl) us = some b ∧ Q (.bl b) H
theorem call_isXs : CallR X (.builtin "isinstance") (rIsXs X.K) := by
  intro pins s σ H xs us Q I r h
  obtain ⟨a, Cl, tp, cs, ws, b, rfl, ha, Cc, hT, k, e, q⟩ := h
  obtain ⟨u1, u2, rfl, r1, r2⟩ := vals2 r
  cases (show u2 = Value.ref tp from r2)
  cases (show u1 = Value.ref a from r1)
  obtain ⟨oe, vs, hget, hz, hv⟩ := (I.hok a _ ha).1
  have J : PySem.W.InstAt s.heap a oe Cl none := by
    obtain ⟨oc, od, oda, osl⟩ := oe
    obtain ⟨h1, h2⟩ := hz
    dsimp only at h1 h2 hv
    subst h1 h2 hv
    exact ⟨hget, rfl, rfl, trivial⟩
  obtain ⟨_, its, rv, o, h1, h2, n, h3⟩ := (show ObjOk X.prog X.w H s.heap tp (.tup cs) from I.hok tp _ hT)
  have e3 := ClsV.all k rv
  subst e3
  obtain ⟨oc, od, dt, sl⟩ := o
  simp only at h2 h3
  subst h2 h3
  exact PySem.W.kia_tup (PySem.W.handS_kitx_exc Cc.hg Cc.hk Cc.hs Cc.hd Cc.ha Cc.hn Cc.ht Cc.hm) I.kIn J h1 e (fun z => nomatch z) fun tk => ⟨.bl b, H, I.kept (t' := tk) fun _ _ z => z, rfl, q⟩
theorem kit_es {K : PySem.W.Frag} {x : Str} : ∀ {Ys : List Str}, (∀ y ∈ Ys, PySem.W.kitOne K (.ref (He.ga K x)) (.ref (He.ga K y)) = some (decide (x = y))) → PySem.W.kitAny K (.ref (He.ga K x)) (Ys.map fun y => .ref (He.ga K y)) = some (Ys.any fun y => decide (x = y))
  | [], _ => kitAny_nil
  | y :: Ys, h => by
    refine kitAny_cons (h y List.mem_cons_self) (fun e => ?_) fun e => ?_
    · rw [kit_es fun z hz => h z (List.mem_cons_of_mem _ hz), List.any_cons, e]
      rfl
    · rw [List.any_cons, e]
      rfl
theorem cls_es (K : PySem.W.Frag) : ∀ Ys : List Str, Paired ClsV (Ys.map fun y => V.ref (He.ga K y)) (Ys.map fun y => Value.ref (He.ga K y))
  | [] => .nil
  | y :: Ys => .cons (.own _) (cls_es K Ys)
/-- the classes' row -/
def tEs (K : PySem.W.Frag) (Ys : List Str) : TE := fun _ H Q => ∀ p, H p = none → Q (.ref p) (upd H p (.tup (Ys.map fun y => V.ref (He.ga K y))))
theorem pd_isEs {Ys : List Str} {p : Pos} (T : ErrT X.K X.mg RN YN) (hY : ∀ y ∈ Ys, y ∈ YN) (hm : X.mg "isinstance" = none) (ha : PE X e (up C ta)) (ht : PE X es (tEs X.K Ys)) (hK : C.K = X.K := by rfl)
    (hcall : ∀ (r : List V → Hp → VK → Prop) (te tt : TE), X.mg "isinstance" = none → CallR X (.builtin "isinstance") r → PE X e te → PE X es tt → PE X (.Call (.Name "isinstance" p) [e, es] [] pos) (tCB r (tCons te (tCons tt tNil))) := by exact fun _ _ _ hm0 h1 h2 h3 => pe_callB h1 (by rfl) hm0 (by decide +kernel) (pa_cons h2 (pa_cons h3 pa_nil))) :
    PE X (.Call (.Name "isinstance" p) [e, es] [] pos) (up C (dUn (fIsEs RN Ys) ta)) := pe_weak (hcall _ _ _ hm call_isXs ha ht) fun σ H Q ⟨G, δ, F, hC, k, h⟩ => by
  subst hC
  refine ⟨G, δ, F, rfl, k, finA_bind h fun x δ1 v F1 H1 k1 g1 w1 h1 => ?_⟩
  obtain ⟨F2, k2, g2, w2⟩ := k1.freeze w1
  obtain ⟨d, z, e1, e3, q⟩ := lift1_fin (finA_mono h1 g2)
  obtain ⟨n, rfl, hn, rfl⟩ := isEs_some e3
  obtain ⟨a, rfl, ha⟩ := exc_at (k2.view w2 e1)
  rw [show G.K = X.K from hK] at ha
  intro p hp
  have k3 := k2.newOwn (o := .tup (Ys.map fun y => V.ref (He.ga X.K y))) hp
  have ha' : (upd H1 p (.tup (Ys.map fun y => V.ref (He.ga X.K y)))) a = some (ExH (.ref (He.ga X.K n)) a) := by
    rw [upd_ne (ne_of_none (k2.fh _ _ ha) hp)]
    exact k2.fh _ _ ha
  exact ⟨a, _, p, _, _, _, rfl, ha', (T.at hn).1, upd_same, cls_es X.K Ys, kit_es fun y hy => (T.at hn).2.2.2 y (hY y hy), (q _).fz k3 (.bl _)⟩
/-- names of the classes, one behind the other -/
def taEs (K : PySem.W.Frag) : List Str → TA
  | [] => tNil
  | y :: ys => tCons (tC (.ref (He.ga K y))) (taEs K ys)
end
end DL

set_option Elab.async false
set_option linter.all false
set_option maxRecDepth 100000
set_option autoImplicit false
/-! xs.clear(), xs.reverse() of own lists -/
namespace DL
open PySem PySem.Spec PyProof.Rows L2
variable [Tabs]
section
variable {X : Cx} {C : Cf} {pos : Pos}
def dClr (i : Nat) : Ds := fun δ => okIf (isLst i δ) (mutL i (fun _ => some []) δ)
def dRvs (i : Nat) : Ds := fun δ => okIf (isLst i δ) (mutL i (fun ds => some ds.reverse) δ)
theorem pds_clr (i : Nat) {x : Str} {p1 p2 p3 : Pos} (hN : X.N[i]? = some x := by rfl) (hv : Vis X.env.scope x := by first | exact Or.inl rfl | exact Or.inr (Or.inl rfl) | exact Or.inr (Or.inr rfl)) (hd : (x == ("__debug__" : Str)) = false := by decide)
    (hcd : (x == ("__classdict__" : Str)) = false := by decide) (hw : swapsWith (.Call (.Attribute (.Name x p1) "clear" p2) [] [] p3) none pos.line X.env = pure false := by rfl)
    (hcall : ∀ (to : TE), PE X (.Name x p1) to → PE X (.Call (.Attribute (.Name x p1) "clear" p2) [] [] p3) (tBM0 X.K "list" rClear to) := by exact fun _ h1 => pe_bm0 PySem.F.plainAttrs_list PySem.F.slot_list_clear PySem.F.type_list_clear mt_clear h1) :
    PS X (.Expr (.Call (.Attribute (.Name x p1) "clear" p2) [] [] p3) pos) (ups C (dClr i)) := by
  refine ps_weak (ps_expr (hcall _ (pe_var hN hv hd hcd)) hw) fun D σ H ⟨G, δ, F, hC, k, h⟩ => ?_
  subst hC
  obtain ⟨z, h⟩ := okIf_finS h
  obtain ⟨p, vs, e1, e2⟩ := isLst_held k z
  obtain ⟨s, ds, l, q1, q2, q3, h3⟩ := mutL_fin h
  cases q3
  obtain ⟨p', o, a1, a2, a3, vs', rfl, a4⟩ := k.held q1 q2
  rw [e1] at a1
  cases a1
  exact ⟨.ref p, e1, .inl ⟨rfl, vs', SqL.of a2⟩, p, vs', rfl, rfl, a2, h3 σ F _ (k.change q1 q2 e1 ⟨_, rfl, .nil⟩) (Same.refl F)⟩
theorem pds_rvs (i : Nat) {x : Str} {p1 p2 p3 : Pos} (hN : X.N[i]? = some x := by rfl) (hv : Vis X.env.scope x := by first | exact Or.inl rfl | exact Or.inr (Or.inl rfl) | exact Or.inr (Or.inr rfl)) (hd : (x == ("__debug__" : Str)) = false := by decide)
    (hcd : (x == ("__classdict__" : Str)) = false := by decide) (hw : swapsWith (.Call (.Attribute (.Name x p1) "reverse" p2) [] [] p3) none pos.line X.env = pure false := by rfl)
    (hcall : ∀ (to : TE), PE X (.Name x p1) to → PE X (.Call (.Attribute (.Name x p1) "reverse" p2) [] [] p3) (tBM0 X.K "list" rReverse to) := by exact fun _ h1 => pe_bm0 PySem.F.plainAttrs_list PySem.F.slot_list_reverse PySem.F.type_list_reverse mt_reverse h1) :
    PS X (.Expr (.Call (.Attribute (.Name x p1) "reverse" p2) [] [] p3) pos) (ups C (dRvs i)) := by
  refine ps_weak (ps_expr (hcall _ (pe_var hN hv hd hcd)) hw) fun D σ H ⟨G, δ, F, hC, k, h⟩ => ?_
  subst hC
  obtain ⟨z, h⟩ := okIf_finS h
  obtain ⟨p, vs, e1, e2⟩ := isLst_held k z
  obtain ⟨s, ds, l, q1, q2, q3, h3⟩ := mutL_fin h
  cases q3
  obtain ⟨p', o, a1, a2, a3, vs', rfl, a4⟩ := k.held q1 q2
  rw [e1] at a1
  cases a1
  exact ⟨.ref p, e1, .inl ⟨rfl, vs', SqL.of a2⟩, p, vs', rfl, rfl, a2, h3 σ F _ (k.change q1 q2 e1 ⟨_, rfl, dpa_rev a4⟩) (Same.refl F)⟩
end
section
variable {δ δ' : DS} {i : Nat} {ds : List D}
theorem s_clr (h : δ[i]? = some (.own (.lst ds))) (hs : δ.set i (.own (.lst [])) = δ') : dClr i δ = .ok .nx δ' := by
  subst hs
  unfold dClr isLst mutL lstAt
  simp only [h]
  rfl
theorem s_rvs (h : δ[i]? = some (.own (.lst ds))) (hs : δ.set i (.own (.lst ds.reverse)) = δ') : dRvs i δ = .ok .nx δ' := by
  subst hs
  unfold dRvs isLst mutL lstAt
  simp only [h]
  rfl
end
end DL

set_option Elab.async false
set_option linter.all false
set_option maxRecDepth 100000
set_option autoImplicit false
/-! an own list handed over to be read alone: it stays one's own -/
namespace DL
open PySem PySem.Spec PyProof.Rows L2
variable [Tabs]
mutual
/-- no list within -/
def noL : D → Bool
  | .list _ => false
  | .dict _ => false
  | .tuple ds => noLs ds
  | _ => true
def noLs : List D → Bool
  | [] => true
  | d :: ds => noL d && noLs ds
end
mutual
theorem dp_less {K : PySem.W.Frag} {F F' : Hp} (h : ∀ b xs, F b = some (.tup xs) → F' b = some (.tup xs)) : ∀ (d : D) (v : V), noL d = true → Dp K F v d → Dp K F' v d
  | .none, _, _, w => by cases w; exact .non
  | .bool b, _, _, w => by cases w; exact .bl b
  | .int i, _, _, w => by cases w; exact .int i
  | .str x, _, _, w => by cases w; exact .str x
  | .list ds, _, n, _ => by cases n
  | .tuple ds, _, n, w => by cases w with | tup a b => exact .tup (h _ _ a) (dpa_less h ds _ n b)
  | .dict kvs, _, n, _ => by cases n
theorem dpa_less {K : PySem.W.Frag} {F F' : Hp} (h : ∀ b xs, F b = some (.tup xs) → F' b = some (.tup xs)) : ∀ (ds : List D) (vs : List V), noLs ds = true → DpAll K F vs ds → DpAll K F' vs ds
  | [], _, _, w => by cases w; exact .nil
  | d :: ds, _, n, w => by
    have n : (noL d && noLs ds) = true := n
    rw [Bool.and_eq_true] at n
    cases w with | cons a b => exact .cons (dp_less h d _ n.1 a) (dpa_less h ds _ n.2 b)
end
def noC : Co → Bool
  | .lst ds => noLs ds
  | .dct _ => false
def noV : Vl → Bool
  | .fz d => noL d
  | .own c => noC c
  | .loc _ => false
theorem co_less {K : PySem.W.Frag} {F F' : Hp} (h : ∀ b xs, F b = some (.tup xs) → F' b = some (.tup xs)) {c : Co} {o : HO} (n : noC c = true) (w : CoOk K F c o) : CoOk K F' c o := by
  cases c with
  | lst ds =>
    obtain ⟨vs, e, a⟩ := w
    exact ⟨vs, e, dpa_less h _ _ n a⟩
  | dct _ => cases n
def oksl : Sl → Bool
  | .own c => noC c
  | .arg c => noC c
  | _ => true
/-- all slots but this one hold no list within a list -/
def restOk (i : Nat) (δ : DS) : Bool := (List.range δ.length).all fun j => j == i || oksl (δ.getD j .no)
theorem rest_at {i j : Nat} {δ : DS} {s : Sl} (h : restOk i δ = true) (hj : δ[j]? = some s) (ne : j ≠ i) : oksl s = true := by
  have z := List.all_eq_true.mp h j (List.mem_range.mpr (List.getElem?_eq_some_iff.mp hj).1)
  rw [List.getD_eq_getElem?_getD, hj] at z
  simpa [ne] using z
open Classical in
noncomputable def dBor (i : Nat) (te : De) : De := fun δ => match δ[i]? with
  | some (.own (.lst ds)) => (match te (δ.set i (.fz (.list ds))) with
    | .ok z δ' => okIf (decide (δ' = δ.set i (.fz (.list ds))) && (noV z && restOk i δ)) (.ok z δ)
    | _ => .bad)
  | _ => .bad
theorem unlock {G : Ct} {δ : DS} {σ : L2.St} {F H F2 H2 : Hp} {i : Nat} {ds : List D} (k : St1 G δ σ F H) (hi : δ[i]? = some (.own (.lst ds))) (hr : restOk i δ = true) {p : Addr} {vs : List V} (hp : σ[i]? = some (some (.ref p))) (h1 : H p = some (.lst vs)) (ha : DpAll G.K F vs ds)
    (k2 : St1 G (δ.set i (.fz (.list ds))) σ F2 H2) (f2 : Same (upd F p (.lst vs)) F2) : ∃ F3, St1 G δ σ F3 H2 ∧ Same F F3 ∧ F3 p = none ∧ (∀ b xs, F2 b = some (.tup xs) → F3 b = some (.tup xs)) ∧ ∀ b, F2 b = none → F3 b = none := by
  have li : i < δ.length := (List.getElem?_eq_some_iff.mp hi).1
  have fp : F p = none := by
    obtain ⟨p', o, e1, _, e3, _⟩ := k.sl i _ hi
    rw [hp] at e1
    cases e1
    exact e3
  have z0 : G.H0 p = none ∧ G.M i = none := by
    obtain ⟨p', o, e1, _, _, _, e5, e6⟩ := k.sl i _ hi
    rw [hp] at e1
    cases e1
    exact ⟨e6, e5⟩
  have p2 : F2 p = some (.lst vs) := f2 _ _ upd_same
  have hf : Same F F2 := fun b o e => f2 _ _ (by rw [upd_ne (ne_of_none e fp)]; exact e)
  refine ⟨fun b => if b = p then none else F2 b, ?_, ?_, if_pos rfl, ?_, ?_⟩
  · have s3 : Same F (fun b => if b = p then none else F2 b) := fun b o e => by
      show (if b = p then none else F2 b) = some o
      rw [if_neg (ne_of_none e fp)]
      exact hf _ _ e
    have t3 : ∀ b xs, F2 b = some (.tup xs) → (if b = p then none else F2 b) = some (.tup xs) := fun b xs e => by
      rw [if_neg (fun z => by subst z; rw [p2] at e; cases e)]
      exact e
    refine ⟨k.len, fun b o e => ?_, fun b o e => ?_, k2.h0, fun b e => ?_, fun j s hj => ?_, fun j m s t q ne e1 e2 g1 g2 r1 r2 => ?_, k.ma, k.tb⟩
    · have e : (if b = p then none else F2 b) = some o := e
      by_cases hb : b = p
      · rw [if_pos hb] at e; cases e
      · rw [if_neg hb] at e; exact k2.fh _ _ e
    · exact s3 _ _ (k.f0 _ _ e)
    · have e : (if b = p then none else F2 b) ≠ none := e
      by_cases hb : b = p
      · rw [if_pos hb] at e; exact absurd rfl e
      · rw [if_neg hb] at e; exact k2.fn b e
    · by_cases ej : j = i
      · subst ej
        rw [hi] at hj
        cases hj
        exact ⟨p, _, hp, k2.fh _ _ p2, if_pos rfl, ⟨vs, rfl, dpa_mono s3 _ _ ha⟩, z0.2, z0.1⟩
      · have q2 := k2.sl j s (by rw [List.getElem?_set_ne (Ne.symm ej)]; exact hj)
        have ok := rest_at hr hj ej
        cases s with
        | no => trivial
        | fz d =>
          obtain ⟨v, e1, e2⟩ := k.sl j _ hj
          exact ⟨v, e1, dp_mono s3 _ _ e2⟩
        | own c =>
          obtain ⟨q, o, e1, e2, e3, e4, e5, e6⟩ := q2
          exact ⟨q, o, e1, e2, by show (if q = p then none else F2 q) = none; split; rfl; exact e3, co_less t3 ok e4, e5, e6⟩
        | arg c =>
          obtain ⟨q, o, e1, e2, e3, e4, e5⟩ := q2
          exact ⟨q, o, e1, e2, by show (if q = p then none else F2 q) = none; split; rfl; exact e3, co_less t3 ok e4, e5⟩
    · exact k.di j m s t q ne e1 e2 g1 g2 r1 r2
  · intro b o e
    show (if b = p then none else F2 b) = some o
    rw [if_neg (ne_of_none e fp)]
    exact hf _ _ e
  · intro b xs e
    show (if b = p then none else F2 b) = some (.tup xs)
    rw [if_neg (fun z => by subst z; rw [p2] at e; cases e)]
    exact e
  · intro b e
    show (if b = p then none else F2 b) = none
    split
    · rfl
    · exact e
section
variable {X : Cx} {C : Cf} {e : Expr} {te : De}
open Classical in
theorem pd_bor (i : Nat) (ha : PE X e (up C te)) : PE X e (up C (dBor i te)) := pe_weak ha fun σ H Q ⟨G, δ, F, hC, k, h⟩ => by
  unfold dBor at h
  cases es : δ[i]? with
  | none => rw [es] at h; exact h.elim
  | some s =>
    rw [es] at h
    cases s with
    | no => exact h.elim
    | fz d => exact h.elim
    | arg c => exact h.elim
    | own c =>
      cases c with
      | dct _ => exact h.elim
      | lst ds =>
        simp only at h
        have li : i < δ.length := (List.getElem?_eq_some_iff.mp es).1
        obtain ⟨p, o, e1, e2, e3, ⟨vs, rfl, e4⟩, e5, e6⟩ := k.sl i _ es
        obtain ⟨F1, k1, g1, w1⟩ := k.keepV (a := .loc i) (v := .ref p) (d := .list ds) (δ' := δ.set i (.fz (.list ds))) e1 (by
          unfold kp
          simp only [es])
        have f1 : Same (upd F p (.lst vs)) F1 := fun b u eb => by
          by_cases hb : b = p
          · subst hb
            rw [upd_same] at eb
            cases eb
            cases w1 with
            | lst a b =>
              have := k1.fh _ _ a
              rw [e2] at this
              cases this
              exact a
          · rw [upd_ne hb] at eb
            exact g1 _ _ eb
        refine ⟨G, _, F1, hC, k1, ?_⟩
        cases et : te (δ.set i (.fz (.list ds))) with
        | bad => rw [et] at h; exact h.elim
        | ex c δ' => rw [et] at h; exact h.elim
        | ok z δ' =>
          rw [et] at h
          simp only at h
          obtain ⟨q, h9⟩ := okIf_fin h
          clear h
          rw [Bool.and_eq_true, Bool.and_eq_true] at q
          obtain ⟨q1, q2, q3⟩ := q
          have q1 : δ' = δ.set i (.fz (.list ds)) := of_decide_eq_true q1
          subst q1
          intro v F2 H2 k2 f2 w2
          obtain ⟨F3, k3, s3, p3, t3, n3⟩ := unlock k es q3 e1 e2 e4 k2 (f1.trans f2)
          refine h9 v F3 H2 k3 s3 ?_
          cases z with
          | loc j => cases q2
          | fz d => exact dp_less t3 _ _ q2 w2
          | own c =>
            obtain ⟨p', o', r1, r2, r3, r4, r5, r6⟩ := w2
            refine ⟨p', o', r1, r2, n3 _ r3, co_less t3 q2 r4, r5, fun j s hj hs hq => ?_⟩
            by_cases ej : j = i
            · subst ej
              rw [e1] at hq
              cases hq
              rw [f2 _ _ (f1 _ _ upd_same)] at r3
              cases r3
            · exact r6 j s (by rw [List.getElem?_set_ne (Ne.symm ej)]; exact hj) hs hq
end
open Classical in
theorem r_bor {i : Nat} {te : De} {δ : DS} {ds : List D} {z : Vl} (h : δ[i]? = some (.own (.lst ds))) {δ0 : DS} (h0 : δ.set i (.fz (.list ds)) = δ0) (ht : te δ0 = .ok z δ0) (hz : noV z = true) (hr : restOk i δ = true) : dBor i te δ = .ok z δ := by
  subst h0
  unfold dBor
  simp only [h, ht, hz, hr]
  simp [okIf]
/-! ### x, y = (e1, e2), both lists of one's own -/
theorem unlockT {G : Ct} {δ : DS} {σ : L2.St} {F H F2 H2 : Hp} (k : St1 G δ σ F H) (hr : restOk δ.length δ = true) {p : Addr} {vs : List V} (fp : F p = none) (k2 : St1 G δ σ F2 H2) (f2 : Same (upd F p (.lst vs)) F2) : ∃ F3, St1 G δ σ F3 H2 ∧ Same F F3 ∧ F3 p = none ∧ (∀ b xs, F2 b = some (.tup xs) → F3 b = some (.tup xs)) ∧ ∀ b, F2 b = none → F3 b = none := by
  have p2 : F2 p = some (.lst vs) := f2 _ _ upd_same
  have hf : Same F F2 := fun b o e => f2 _ _ (by rw [upd_ne (ne_of_none e fp)]; exact e)
  have s3 : Same F (fun b => if b = p then none else F2 b) := fun b o e => by
    show (if b = p then none else F2 b) = some o
    rw [if_neg (ne_of_none e fp)]
    exact hf _ _ e
  have t3 : ∀ b xs, F2 b = some (.tup xs) → (if b = p then none else F2 b) = some (.tup xs) := fun b xs e => by
    rw [if_neg (fun z => by subst z; rw [p2] at e; cases e)]
    exact e
  refine ⟨fun b => if b = p then none else F2 b, ⟨k.len, fun b o e => ?_, fun b o e => s3 _ _ (k.f0 _ _ e), k2.h0, fun b e => ?_, fun j s hj => ?_, k.di, k.ma, k.tb⟩, s3, if_pos rfl, t3, fun b e => ?_⟩
  · have e : (if b = p then none else F2 b) = some o := e
    by_cases hb : b = p
    · rw [if_pos hb] at e; cases e
    · rw [if_neg hb] at e; exact k2.fh _ _ e
  · have e : (if b = p then none else F2 b) ≠ none := e
    by_cases hb : b = p
    · rw [if_pos hb] at e; exact absurd rfl e
    · rw [if_neg hb] at e; exact k2.fn b e
  · have q2 := k2.sl j s hj
    have ok := rest_at hr hj (by have := (List.getElem?_eq_some_iff.mp hj).1; omega)
    cases s with
    | no => trivial
    | fz d =>
      obtain ⟨v, e1, e2⟩ := k.sl j _ hj
      exact ⟨v, e1, dp_mono s3 _ _ e2⟩
    | own c =>
      obtain ⟨q, o, e1, e2, e3, e4, e5, e6⟩ := q2
      exact ⟨q, o, e1, e2, by show (if q = p then none else F2 q) = none; split; rfl; exact e3, co_less t3 ok e4, e5, e6⟩
    | arg c =>
      obtain ⟨q, o, e1, e2, e3, e4, e5⟩ := q2
      exact ⟨q, o, e1, e2, by show (if q = p then none else F2 q) = none; split; rfl; exact e3, co_less t3 ok e4, e5⟩
  · show (if b = p then none else F2 b) = none
    split
    · rfl
    · exact e
open Classical in
noncomputable def dParO (i j : Nat) (a b : De) : Ds := fun δ => match a δ with
  | .ok (.own (.lst ds)) δ1 => (match b δ1 with
    | .ok (.own (.lst es)) δ2 => okIf (decide (δ2 = δ1) && (noLs es && (restOk δ1.length δ1 && (okSet δ1 i && okSet δ1 j)))) (.ok .nx ((δ1.set i (.own (.lst ds))).set j (.own (.lst es))))
    | _ => .bad)
  | _ => .bad
section
variable {X : Cx} {C : Cf} {a b : Expr} {ta tb : De}
open Classical in
theorem pds_parO (i j : Nat) {y z : Str} {px py pt p2 pos : Pos} {kt k2 : Nat} (ha : PE X a (up C ta)) (hb : PE X b (up C tb)) (hN : X.N.Nodup) (hp : ∀ (ta : TA), PA X [a, b] ta → PS X (.Assign [.Tuple [.Name y px, .Name z py] kt pt] (.Tuple [a, b] k2 p2) pos) (tPar i j ta)) (hij : i ≠ j := by decide) (hpa : ∀ (u v : TE), PE X a u → PE X b v → PA X [a, b] (tCons u (tCons v tNil)) := by exact fun _ _ h1 h2 => pa_cons h1 (pa_cons h2 pa_nil)) :
    PS X (.Assign [.Tuple [.Name y px, .Name z py] kt pt] (.Tuple [a, b] k2 p2) pos) (ups C (dParO i j ta tb)) := ps_weak (hp _ (hpa _ _ ha hb)) fun D σ H ⟨G, δ, F, hC, k, h⟩ => by
  unfold dParO at h
  refine ⟨G, δ, F, hC, k, ?_⟩
  cases ea : ta δ with
  | bad => rw [ea] at h; exact h.elim
  | ex c δ1 => rw [ea] at h; exact h.elim
  | ok x δ1 =>
    rw [ea] at h
    cases x with
    | fz d => exact h.elim
    | loc l => exact h.elim
    | own c =>
      cases c with
      | dct _ => exact h.elim
      | lst ds =>
        simp only at h
        intro v F1 H1 k1 g1 w1
        obtain ⟨F1', k1', g1', w1'⟩ := k1.freeze w1
        obtain ⟨p, o, rfl, h1, fp, ⟨vs, rfl, dv⟩, h0p, fr⟩ := w1
        have fp' : F1' p = some (.lst vs) := by
          have w1' : Dp G.K F1' (.ref p) (.list ds) := w1'
          cases w1' with
          | lst q _ =>
            have := k1'.fh _ _ q
            rw [h1] at this
            cases this
            exact q
        have f1' : Same (upd F1 p (.lst vs)) F1' := fun b u eb => by
          by_cases hb : b = p
          · subst hb; rw [upd_same] at eb; cases eb; exact fp'
          · rw [upd_ne hb] at eb; exact g1' _ _ eb
        refine ⟨G, δ1, F1', hC, k1', ?_⟩
        cases eb : tb δ1 with
        | bad => rw [eb] at h; exact h.elim
        | ex c δ2 => rw [eb] at h; exact h.elim
        | ok y δ2 =>
          rw [eb] at h
          cases y with
          | fz d => exact h.elim
          | loc l => exact h.elim
          | own c =>
            cases c with
            | dct _ => exact h.elim
            | lst es =>
              simp only at h
              obtain ⟨q, h9⟩ := okIf_finS h
              clear h
              rw [Bool.and_eq_true, Bool.and_eq_true, Bool.and_eq_true, Bool.and_eq_true] at q
              obtain ⟨q1, q2, q3, q4, q5⟩ := q
              have q1 : δ2 = δ1 := of_decide_eq_true q1
              subst q1
              intro w F2 H2 k2 f2 w2
              obtain ⟨F3, k3, s3, p3, t3, n3⟩ := unlockT k1 q3 fp k2 (f1'.trans f2)
              obtain ⟨r, o', rfl, r2, r3, r4, r5, r6⟩ := w2
              have fp2 : F2 p = some (.lst vs) := f2 _ _ fp'
              have hrp : r ≠ p := fun z => by subst z; rw [r3] at fp2; cases fp2
              obtain ⟨s1, e1, a1⟩ := okSet_some q4
              obtain ⟨s2, e2, a2⟩ := okSet_some q5
              have k4 := k3.setOwn (v := .ref p) (c := .lst ds) e1 a1 ⟨p, _, rfl, k2.fh _ _ fp2, p3, ⟨vs, rfl, dpa_mono s3 _ _ dv⟩, h0p, fr⟩
              have e2' : (δ2.set i (.own (.lst ds)))[j]? = some s2 := by rw [List.getElem?_set_ne hij]; exact e2
              have k5 := k4.setOwn (v := .ref r) (c := .lst es) e2' a2 ⟨r, o', rfl, r2, n3 _ r3, co_less t3 (c := .lst es) q2 r4, r5, fun l s hl hs hq => by
                by_cases el : l = i
                · subst el
                  rw [List.getElem?_set_self (k3.lt e1).2] at hq
                  cases hq
                  exact hrp rfl
                · rw [List.getElem?_set_ne (Ne.symm el)] at hl hq
                  exact r6 l s hl hs hq⟩
              exact ⟨_, _, rfl, h9 _ F3 H2 k5 (g1.trans s3)⟩
end
open Classical in
theorem s_parO {i j : Nat} {a b : De} {δ δ1 δ' : DS} {ds es : List D} (ha : a δ = .ok (.own (.lst ds)) δ1) (hb : b δ1 = .ok (.own (.lst es)) δ1) (hz : noLs es = true) (hr : restOk δ1.length δ1 = true) (ho : (okSet δ1 i && okSet δ1 j) = true) (hs : (δ1.set i (.own (.lst ds))).set j (.own (.lst es)) = δ') : dParO i j a b δ = .ok .nx δ' := by
  subst hs
  unfold dParO
  simp only [ha, hb, hz, hr, ho]
  simp [okIf]
end DL

set_option Elab.async false
set_option linter.all false
set_option maxRecDepth 100000
set_option autoImplicit false
/-! xs.count(thing) of a list of data -/
namespace DL
open PySem PySem.Spec PyProof.Rows L2
variable [Tabs]
section
variable {X : Cx} {C : Cf} {e : Expr} {ta : De} {pos : Pos}
def cntD (i : Nat) (d : D) (δ : DS) : R Vl := match lstW i δ with
  | some ds => okIf (SeqAt.shaped d && SeqAt.shaped (.list ds)) (.ok (.fz (.int (ds.countP fun y => PyData.eqv y d : Nat))) δ)
  | none => .bad
def dCntD (i : Nat) (a : De) : De := fun δ => okIf (lstW i δ).isSome ((a δ).bind fun x δ1 => match x with
  | .fz d => cntD i d δ1
  | _ => .bad)
theorem cntD_fin {G : Ct} {i : Nat} {d : D} {δ : DS} {σ : L2.St} {F : Hp} {Q : VK} (h : finA G (WV G σ) (cntD i d δ) σ F Q) : ∃ ds, lstW i δ = some ds ∧ SeqAt.shaped d = true ∧ SeqAt.shaped (.list ds) = true ∧ finA G (WV G σ) (.ok (.fz (.int (ds.countP fun y => PyData.eqv y d : Nat))) δ) σ F Q := by
  unfold cntD at h
  cases e : lstW i δ with
  | none => rw [e] at h; exact h.elim
  | some ds =>
    rw [e] at h
    simp only at h
    obtain ⟨z, h9⟩ := okIf_fin h
    rw [Bool.and_eq_true] at z
    exact ⟨ds, rfl, z.1, z.2, h9⟩
def rCntD (K : PySem.W.Frag) : V → List V → Hp → VK → Prop := fun x xs H Q => ∃ (a : Addr) (us : List V) (y : V) (d : D) (ds : List D), x = V.ref a ∧ xs = [y] ∧ SqL K H a us ∧ L2.DpAll K H us ds ∧ L2.Dp K H y d ∧ SeqAt.shaped (.list ds) = true ∧ SeqAt.shaped d = true ∧ Q (.int (ds.countP fun y => PyData.eqv y d : Nat)) H
theorem shaped_depth {d : D} (h : SeqAt.shaped d = true) : d.depth ≤ 64 := by
  unfold SeqAt.shaped at h
  rw [Bool.and_eq_true] at h
  exact of_decide_eq_true h.2
theorem mt_cntD (hu : X.A.units + 70 < cLine) : MtR X "list.count" (rCntD X.K) := by
  intro pins s σ H x xs v us Q I rx rxs h
  obtain ⟨a, ws, y, d, ds, rfl, rfl, hs, hd, hy, sl, sd, q⟩ := h
  cases rx
  obtain ⟨u, rfl, ru⟩ := rxs.one
  obtain ⟨its, rv, hl, _⟩ := I.list hs
  obtain ⟨bs, r1⟩ := L2.Dp.reads I d y u hy ru
  obtain ⟨as, ra⟩ := L2.Dp.readsAll I ds _ _ hd rv
  have c0 := SeqAt.canLay_of_shaped sl
  have p1 : PyData.plainAll ds = true := PyData.plainAll_of_canLay0 ds c0
  have p2 : d.plain = true := PyData.plain_of_canLay0 d (SeqAt.canLay_of_shaped sd)
  have dd := shaped_depth sd
  exact PySem.SeqAt.count_list_data hl.isList ra r1 p1 p2 (by omega) ⟨.int _, H, I.tok _, ⟨_, rfl⟩, q⟩
theorem pd_cntD (hu : X.A.units + 70 < cLine) (i : Nat) {x : Str} {p1 p2 p3 : Pos} (ha : PE X e (up C ta)) (hN : X.N[i]? = some x := by rfl) (hv : Vis X.env.scope x := by first | exact Or.inl rfl | exact Or.inr (Or.inl rfl) | exact Or.inr (Or.inr rfl)) (hd : (x == ("__debug__" : Str)) = false := by decide)
    (hcd : (x == ("__classdict__" : Str)) = false := by decide) (hK : C.K = X.K := by rfl)
    (hcall : X.A.units + 70 < cLine → ∀ (to te : TE), PE X (.Name x p1) to → PE X e te → PE X (.Call (.Attribute (.Name x p1) "count" p2) [e] [] p3) (tBM X.K "list" (rCntD X.K) to (tCons te tNil)) := by exact fun hu0 _ _ h1 h2 => pe_bm PySem.F.plainAttrs_list PySem.F.slot_list_count PySem.F.type_list_count (mt_cntD hu0) h1 (pa_cons h2 pa_nil)) :
    PE X (.Call (.Attribute (.Name x p1) "count" p2) [e] [] p3) (up C (dCntD i ta)) := by
  refine pe_weak (hcall hu _ _ (pe_var hN hv hd hcd) ha) fun σ H Q ⟨G, δ, F, hC, k, h⟩ => ?_
  subst hC
  obtain ⟨z, h⟩ := okIf_fin h
  obtain ⟨es, hes⟩ := Option.isSome_iff_exists.mp z
  obtain ⟨p, vs, e1, e2, _⟩ := lstW_at k hes
  refine ⟨.ref p, e1, .inl ⟨rfl, vs, SqL.of e2⟩, G, δ, F, rfl, k, finA_bind h fun y δ1 v F1 H1 k1 g1 w1 h1 => ?_⟩
  cases y with
  | loc _ => exact h1.elim
  | own _ => exact h1.elim
  | fz d =>
    obtain ⟨ds, q1, s1, s2, h2⟩ := cntD_fin h1
    obtain ⟨p', vs', a1, a2, a4⟩ := lstW_at k1 q1
    rw [e1] at a1
    cases a1
    have w1 : Dp G.K F1 v d := w1
    refine ⟨p, vs', v, d, ds, rfl, rfl, SqL.of a2, ?_, ?_, s2, s1, h2 _ F1 H1 k1 (Same.refl F1) (.int _)⟩
    · rw [← hK]
      exact dpa_lib _ _ (SeqAt.canLay_of_shaped s2) (dpa_mono k1.fh _ _ a4)
    · rw [← hK]
      exact dp_lib _ _ (SeqAt.canLay_of_shaped s1) (dp_mono k1.fh _ _ w1)
end
theorem r_cntD {i : Nat} {a : De} {δ δ1 : DS} {ds : List D} {d : D} {n : Nat} (ha : a δ = .ok (.fz d) δ1) (h0 : (lstW i δ).isSome = true) (h1 : lstW i δ1 = some ds) (h2 : (SeqAt.shaped d && SeqAt.shaped (.list ds)) = true) (hn : (ds.countP fun y => PyData.eqv y d) = n) : dCntD i a δ = .ok (.fz (.int (n : Nat))) δ1 := by
  subst hn
  unfold dCntD
  simp only [h0, okIf, ha, R.bind]
  unfold cntD
  simp only [h1, h2, okIf]
end DL

set_option Elab.async false
set_option linter.all false
set_option maxRecDepth 100000
set_option autoImplicit false
/-! steps of try, of calls that do not raise -/
namespace DL
open PySem PySem.Spec PyProof.Rows L2
variable [Tabs]
theorem nx_ok {den : List Sl → R Vl} {as : List Sl} {z : Vl} {δ δ' : DS} (h : den as = .ok z δ) (ht : trim as δ = δ' := by rfl) : nx den as = .ok z δ' := by
  subst ht
  unfold nx
  rw [h]
  rfl
theorem x_callA {den : List Sl → R Vl} {al : Da} {c : Value} {δ δ1 : DS} (h : al δ = .ex c δ1) : dCall den al δ = .ex c δ1 := by
  unfold dCall
  rw [h]
  rfl
theorem x_aVal {a : De} {al : Da} {c : Value} {δ δ1 : DS} (h : a δ = .ex c δ1) : aVal a al δ = .ex c δ1 := by
  unfold aVal
  rw [h]
  rfl
theorem s_tryX {RN : List Str} {i j : Nat} {sb : Ds} {x : Str} {δ δ1 δ2 : DS} (h : sb δ = .ex (exV x) δ1) (hx : (decide (x ∈ RN) && (okSet δ1 i && okSet δ1 j)) = true) (hs : (δ1.set i .no).set j (.fz (excD x)) = δ2) : dTry RN i j sb δ = .ok .nx δ2 := by
  subst hs
  unfold dTry
  rw [h]
  simp only [hx, okIf]
theorem s_tryN {RN : List Str} {i j : Nat} {sb : Ds} {δ δ1 : DS} (h : sb δ = .ok .nx δ1) : dTry RN i j sb δ = .ok .nx δ1 := by
  unfold dTry
  rw [h]
theorem isV_ex {RN : List Str} {x : Str} (h : decide (x ∈ RN) = true) : fIsV RN (excD x) = some (.fz (.bool true)) := by
  show okO (decide (x ∈ RN)) (some (Vl.fz (.bool true))) = _
  rw [h]
  rfl
theorem isE_ex {RN : List Str} {x y : Str} (h : decide (x ∈ RN) = true) : fIsE RN y (excD x) = some (.fz (.bool (decide (x = y)))) := by
  show okO (decide (x ∈ RN)) (some (Vl.fz (.bool (decide (x = y))))) = _
  rw [h]
  rfl
theorem isEs_ex {RN ys : List Str} {x : Str} (h : decide (x ∈ RN) = true) : fIsEs RN ys (excD x) = some (.fz (.bool (ys.any fun y => decide (x = y)))) := by
  show okO (decide (x ∈ RN)) (some (Vl.fz (.bool (ys.any fun y => decide (x = y))))) = _
  rw [h]
  rfl
end DL

set_option Elab.async false
set_option linter.all false
set_option maxRecDepth 100000
set_option autoImplicit false
/-! repr of anything -/
namespace DL
open PySem PySem.Spec PyProof.Rows L2
variable [Tabs]
def fReprG : D → Option Vl
  | .none => some (.fz (.str "None"))
  | .int i => okO (decide (i.natAbs.log2 < 1920)) (some (.fz (.str (Str.ofString (toString i)))))
  | .str z => okO (decide ((reprText z).length ≤ sizeLine)) (some (.fz (.str (reprText z))))
  | .dict [(.bool true, .list []), (.bool false, .list [])] => some (.fz (.str (PyData.dict []).shown))
  | .list ds => fRepr (.list ds)
  | .tuple ds => fRepr (.tuple ds)
  | _ => none
def rShowG (K : PySem.W.Frag) : List V → Hp → VK → Prop := fun vs H Q => rShow K vs H Q ∨ (vs = [V.non] ∧ Q (.str "None") H) ∨ (∃ i : Int, vs = [V.int i] ∧ i.natAbs.log2 < 1920 ∧ Q (.str (Str.ofString (toString i))) H) ∨ (∃ z : Str, vs = [V.str z] ∧ (reprText z).length ≤ sizeLine ∧ Q (.str (reprText z)) H) ∨ (∃ (a : Addr) (od : Obj), vs = [V.ref a] ∧ H a = some (.frz od (.dK [])) ∧ Q (.str (PyData.dict []).shown) H)
section
variable {X : Cx} {C : Cf} {e : Expr} {ta : De} {pos : Pos} {k : Nat}
theorem call_showG (hg : X.A.guards = some []) (hu : X.A.units + 100 < cLine) : CallR X (.builtin "repr") (rShowG X.K) := by
  intro pins s σ H vs us Q I r h
  rcases h with h | ⟨rfl, q⟩ | ⟨i, rfl, hi, q⟩ | ⟨z, rfl, hz, q⟩ | ⟨a, od, rfl, ha, q⟩
  · exact call_show hg hu pins s σ H vs us Q I r h
  · obtain ⟨u, rfl, ru⟩ := r.one
    cases ru
    exact P.repr_of_none ⟨.str "None", H, I.tok _, ⟨_, rfl⟩, q⟩
  · obtain ⟨u, rfl, ru⟩ := r.one
    obtain ⟨t, rfl⟩ := ru
    exact P.repr_of_int hi ⟨.str _, H, I.tok _, ⟨_, rfl⟩, q⟩
  · obtain ⟨u, rfl, ru⟩ := r.one
    obtain ⟨t, rfl⟩ := ru
    exact P.repr_of_str ⟨.str _, H, I.tok _, ⟨_, rfl⟩, q⟩ hz
  · rw [Vals.ref1 r]
    obtain ⟨_, hs, ws, kw, o, es, ep, h1, h2, h3, _, h5, _⟩ := dk_rd I.hok (.inr ⟨od, ha⟩)
    cases kw
    have h4 : es.toList = [] := by
      cases hq : es.toList with
      | nil => rfl
      | cons x xs => rw [hq] at h5; cases h5
    have ra : Reads s.heap (.ref a) (.dict []) [a] := Reads.dict (as := []) (bs := []) h1 h2.1 h3 (by rw [h4]; exact .nil) (by rw [h4]; exact .nil)
    exact PySem.repr_of_reads' ra (by rfl) (fun _ z => by
      rw [List.mem_singleton] at z
      subst z
      simp at hs) hg (by show X.A.units + (1 + 1) < cLine; omega) (fun _ _ z => z) (fun h' u tk hk => ⟨.str _, H, I.kept hk, ⟨_, rfl⟩, q⟩) (by decide)
theorem b_showG {K : PySem.W.Frag} : B1 K (rShowG K) fReprG := by
  intro G δ σ F H x d z Q hK k hx ez q
  unfold fReprG at ez
  split at ez
  · cases hx.dp k.fh
    cases ez
    exact .inr (.inl ⟨rfl, q.fz k (.str _)⟩)
  · rename_i i
    obtain ⟨a, b⟩ := okO_some ez
    cases b
    cases hx.dp k.fh
    exact .inr (.inr (.inl ⟨i, rfl, of_decide_eq_true a, q.fz k (.str _)⟩))
  · rename_i y
    obtain ⟨a, b⟩ := okO_some ez
    cases b
    cases hx.dp k.fh
    exact .inr (.inr (.inr (.inl ⟨y, rfl, of_decide_eq_true a, q.fz k (.str _)⟩)))
  · cases ez
    have w := hx.dp k.fh
    have : ∃ (a : Addr) (od : Obj), x = V.ref a ∧ H a = some (.frz od (.dK [])) := by
      generalize e : (PyData.dict [(.bool true, .list []), (.bool false, .list [])] : D) = d0 at w
      cases w with
      | @dct a od ws ds h1 h2 =>
        have e2 : ws = [] := by
          cases ws with
          | nil => rfl
          | cons w ws => simp [dctD] at e
        subst e2
        exact ⟨a, od, rfl, h1⟩
      | scr _ => cases e
      | exc _ _ => cases e
      | _ => cases e
    obtain ⟨a, od, rfl, ha⟩ := this
    exact .inr (.inr (.inr (.inr ⟨a, od, rfl, ha, q.fz k (.str _)⟩)))
  · exact .inl (b_show G δ σ F H x _ z Q hK k hx ez q)
  · exact .inl (b_show G δ σ F H x _ z Q hK k hx ez q)
  · cases ez
theorem pd_reprG {p : Pos} (hm : X.mg "repr" = none) (hg : X.A.guards = some []) (hr : Room k X.A) (ha : PE X e (up C ta)) (hK : C.K = X.K := by rfl) (hcall : ∀ (r : List V → Hp → VK → Prop) (te : TE), X.mg "repr" = none → CallR X (.builtin "repr") r → PE X e te → PE X (.Call (.Name "repr" p) [e] [] pos) (tCB r (tCons te tNil)) := by exact fun _ _ hm0 h1 h2 => pe_callB h1 (by rfl) hm0 (by decide +kernel) (pa_cons h2 pa_nil)) :
    PE X (.Call (.Name "repr" p) [e] [] pos) (up C (dUn fReprG ta)) := pe_weak (hcall _ _ hm (call_showG hg (by have := hr.un; omega)) ha) (by rw [← hK]; exact rf_b1 b_showG)
end
end DL

set_option Elab.async false
set_option linter.all false
set_option maxRecDepth 100000
set_option autoImplicit false
/-! {k: v} with a row of whole numbers as its key -/
namespace DL
open PySem PySem.Spec PyProof.Rows L2
variable [Tabs]
/-- one pair, its key a tuple of numbers and texts -/
def tDis1 (tk tv : TE) : TE := fun σ H Q => ∀ p, H p = none → tk σ (upd H p (.dT [])) fun x H1 => tv σ H1 fun y H2 => H2 p = some (.dT []) ∧ ∃ (b : Addr) (ks : List Key), x = .ref b ∧ H2 b = some (.tup (ks.map kV)) ∧ Q (.ref p) (upd H2 p (.dT [(ks, y)]))
theorem dict1_eval {P : Program} {w : World} {A : Around} {E : Value → Shared → Prop} {s : Shared} {env : Env} {k v : Expr} {pos : Pos} {Q : Value → Shared → Prop} (hu : A.units + 1 < cLine)
    (h : wpAny (model P w) A (evalPairs (pairTrees [some k] [v] env pos)) (fun vs s₁ => ∃ ps, CarriesH (tupleKind (mixKind P w)) s₁.heap vs ps ∧ s₁.heap.DictOfH (tupleKind (mixKind P w)) s.heap.objs.size [] ∧
      ∀ h' tk, h'.DictOfH (tupleKind (mixKind P w)) s.heap.objs.size (storedAllH [] ps) → Heap.SameBut s.heap.objs.size s₁.heap h' → Q (.ref s.heap.objs.size) { s₁ with heap := h', toks := tk }) E
      { s with heap := s.heap.push { cls := .type "dict", data := .dict #[] } }) :
    wpAny (model P w) A (eval (.Dict [some k] [v] pos) env) Q E s := by
  have hn := pairTrees_length [some k] [v] env pos rfl rfl
  have h0 : pairTrees [some k] [v] env pos ≠ [] := fun z => by rw [z] at hn; cases hn
  rw [arm_eval_Dict, zip_pairTrees [some k] [v] env pos rfl rfl, dictDisplay_pairs _ h0 (by rw [hn]; show 1 < 17; decide)]
  refine wpAny_bind (wpAny_standAt (wpAny_bind ?_))
  refine wpAny_subDictH (knd := tupleKind (mixKind P w)) (Q := fun d s' => wpAny (model P w) A (pure (Value.ref d)) Q E s') (show A.units < cLine by omega) (by rw [hn]; show 1 ≤ 15; decide) ?_
  exact wpAny_mono h (fun vs s1 ⟨ps, a, b, c⟩ => ⟨ps, a, b, fun h' tk x y => wpAny_pure (c h' tk x y)⟩) fun _ _ e => e
theorem pe_dis1 {X : Cx} {pos : Pos} {k v : Expr} {tk tv : TE} (hu : X.A.units + 1 < cLine) (hk : PE X k tk) (hv : PE X v tv) : PE X (.Dict [some k] [v] pos) (tDis1 tk tv) := by
  refine ⟨fun pins s σ H Q I q => ?_⟩
  have hn := I.hok.fresh (Nat.le_refl s.heap.objs.size)
  have I1 := I.laid (a := s.heap.objs.size) (o := .dT []) (h' := s.heap.push { cls := .type "dict", data := .dict #[] }) (t' := s.toks) (fun _ _ q => Heap.get?_push_of_some _ q) (Nat.le_refl _) (dt_empty s.heap I.big)
  have hp : PPs X pos [some k] [v] [(tk, tv)] := pps_cons hk hv pps_nil
  refine dict1_eval hu (thn (hp.run pins _ σ _ (fun ps H2 => match ps with
    | [(x, y)] => H2 s.heap.objs.size = some (.dT []) ∧ ∃ (b : Addr) (ks : List Key), x = .ref b ∧ H2 b = some (.tup (ks.map kV)) ∧ Q (.ref s.heap.objs.size) (upd H2 s.heap.objs.size (.dT [(ks, y)]))
    | _ => False) I1 (q _ hn)) fun ws s2 ⟨ps, H2, I2, rel, z⟩ => ?_)
  match ps, z with
  | [(x, y)], ⟨e, b, ks, eb, hb, q2⟩ =>
    subst eb
    cases rel with
    | @cons a c as bs h t =>
      cases t
      obtain ⟨c1, c2⟩ := c
      obtain ⟨r1, r2⟩ := h
      cases (show c1 = Value.ref b from r1)
      obtain ⟨z, hd, xs, kt, dd⟩ := dt_of I2.hok e
      cases kt
      refine ⟨[(ks, b, c2)], ⟨rfl, rfl, L2.key_of I2.hok hb, trivial⟩, dd, fun h' tk' dd' hs => ⟨.ref s.heap.objs.size, _, ?_, rfl, q2⟩⟩
      obtain ⟨o, es, ep, h1, h2, h3, h4, _, h5⟩ := dd'
      refine d_write I2 (by rw [e]; exact True.intro) hs ⟨o, h1⟩ ⟨by show 1 ≤ sizeLine; decide, hd, [(ks, b, c2)], .cons ⟨rfl, ?_, r2⟩ .nil, o, es, ep, h1, h2, h3, h4, h5⟩
      rw [upd_ne (ne_of hb e (fun z => nomatch z))]
      exact hb
end DL

set_option Elab.async false
set_option linter.all false
set_option maxRecDepth 100000
set_option autoImplicit false
/-! {k: v} as a dict of which no more is told -/
namespace DL
open PySem PySem.Spec PyProof.Rows L2
variable [Tabs]
/-- all are whole numbers -/
def intsD : List D → Option (List Int)
  | [] => some []
  | .int i :: ds => (intsD ds).map (i :: ·)
  | _ => none
theorem intsD_key {K : PySem.W.Frag} {F : Hp} : ∀ {ds : List D} {ns : List Int} {vs : List V}, intsD ds = some ns → DpAll K F vs ds → vs = (ns.map (Sum.inl : Int → Key)).map kV
  | [], _, _, h, w => by
    cases h
    cases w
    rfl
  | d :: ds, ns, vs, h, w => by
    cases d with
    | int i =>
      have h : (intsD ds).map (i :: ·) = some ns := h
      obtain ⟨ms, e, rfl⟩ := Option.map_eq_some_iff.mp h
      cases w with
      | cons a b =>
        cases a
        rw [intsD_key e b]
        rfl
    | _ => cases h
theorem room1 {k : Nat} {A : Around} (r : Room k A) : A.units + 1 < cLine := by
  have := r.un
  omega
open Classical in
noncomputable def dDis (a b : De) : De := fun δ => match a δ with
  | .ok (.fz (.tuple ds)) δ1 => (match b δ1 with
    | .ok (.fz e) δ2 => okIf (decide (δ2 = δ) && (intsD ds).isSome) (.ok (.fz odD) δ2)
    | _ => .bad)
  | _ => .bad
/-- with a new thing held apart -/
def Ct.apart (G : Ct) (p : Addr) (o : HO) : Ct := ⟨G.C, G.F0, upd G.H0 p o, G.M⟩
section
variable {G : Ct} {δ : DS} {σ : L2.St} {F H F2 H2 : Hp} {p : Addr} {o : HO}
theorem St1.notM (k : St1 G δ σ F H) (h : H p = none) : ∀ i, G.M i ≠ some p := fun i z => by
  obtain ⟨c, e⟩ := k.ma i p z
  obtain ⟨q, u, e1, e2, e3, e4, e5⟩ := k.sl i _ e
  rw [z] at e5
  cases e5
  rw [h] at e2
  cases e2
theorem St1.toApart (k : St1 G δ σ F H) (h : H p = none) : St1 (G.apart p o) δ σ F (upd H p o) := by
  have k1 := k.newOwn (o := o) h
  refine ⟨k1.len, k1.fh, k1.f0, fun b u hm e => ?_, fun b e => ?_, fun i s hs => ?_, k1.di, k1.ma, k1.tb⟩
  · have e : (upd G.H0 p o) b = some u := e
    by_cases hb : b = p
    · subst hb
      rw [upd_same] at e ⊢
      exact e
    · rw [upd_ne hb] at e
      exact k1.h0 b u hm e
  · rcases k1.fn b e with q | q
    · exact .inl q
    · refine .inr ?_
      show (upd G.H0 p o) b = none
      have hb : b ≠ p := fun z => by subst z; exact e (k.newF h)
      rw [upd_ne hb]
      exact q
  · have z := k1.sl i s hs
    cases s with
    | no => trivial
    | fz d => exact z
    | own c =>
      obtain ⟨q, u, e1, e2, e3, e4, e5, e6⟩ := z
      refine ⟨q, u, e1, e2, e3, e4, e5, ?_⟩
      show (upd G.H0 p o) q = none
      have hb : q ≠ p := fun z => by
        subst z
        obtain ⟨q', u', a1, a2, _⟩ := k.sl i _ hs
        rw [e1] at a1
        cases a1
        rw [h] at a2
        cases a2
      rw [upd_ne hb]
      exact e6
    | arg c => exact z
theorem St1.ofApart (k : St1 (G.apart p o) δ σ F2 H2) (h0 : G.H0 p = none) : St1 G δ σ F2 H2 := by
  refine ⟨k.len, k.fh, k.f0, fun b u hm e => ?_, fun b e => ?_, fun i s hs => ?_, k.di, k.ma, k.tb⟩
  · refine k.h0 b u hm ?_
    show (upd G.H0 p o) b = some u
    have hb : b ≠ p := fun z => by subst z; rw [h0] at e; cases e
    rw [upd_ne hb]
    exact e
  · rcases k.fn b e with q | q
    · exact .inl q
    · refine .inr ?_
      have q : (upd G.H0 p o) b = none := q
      by_cases hb : b = p
      · subst hb; exact h0
      · rw [upd_ne hb] at q; exact q
  · have z := k.sl i s hs
    cases s with
    | no => trivial
    | fz d => exact z
    | own c =>
      obtain ⟨q, u, e1, e2, e3, e4, e5, e6⟩ := z
      refine ⟨q, u, e1, e2, e3, e4, e5, ?_⟩
      have e6 : (upd G.H0 p o) q = none := e6
      by_cases hb : q = p
      · subst hb; exact h0
      · rw [upd_ne hb] at e6; exact e6
    | arg c => exact z
/-- it is put to what is frozen, with other things in it -/
theorem St1.poke (k : St1 G δ σ F2 H2) (h2 : H2 p ≠ none) (f2 : F2 p = none) (h0 : G.H0 p = none) (fr : ∀ (i : Nat) (s : Sl), δ[i]? = some s → s.held = true → σ[i]? ≠ some (some (.ref p))) {o' : HO} : St1 G δ σ (upd F2 p o') (upd H2 p o') := by
  have ff : Same F2 (upd F2 p o') := same_upd f2
  refine ⟨k.len, fun b u e => ?_, k.f0.trans ff, fun b u hm e => ?_, fun b e => ?_, fun i s hs => ?_, k.di, k.ma, k.tb⟩
  · by_cases hb : b = p
    · subst hb; rw [upd_same] at e ⊢; exact e
    · rw [upd_ne hb] at e ⊢; exact k.fh _ _ e
  · have hb : b ≠ p := fun z => by subst z; rw [h0] at e; cases e
    rw [upd_ne hb]
    exact k.h0 b u hm e
  · by_cases hb : b = p
    · subst hb; exact .inr h0
    · rw [upd_ne hb] at e; exact k.fn b e
  · have z := k.sl i s hs
    cases s with
    | no => trivial
    | fz d =>
      obtain ⟨v, e1, e2⟩ := z
      exact ⟨v, e1, dp_mono ff _ _ e2⟩
    | own c =>
      obtain ⟨q, u, e1, e2, e3, e4, e5, e6⟩ := z
      have hb : q ≠ p := fun z => by subst z; exact fr i _ hs rfl e1
      exact ⟨q, u, e1, by rw [upd_ne hb]; exact e2, by rw [upd_ne hb]; exact e3, CoOk.mono ff e4, e5, e6⟩
    | arg c =>
      obtain ⟨q, u, e1, e2, e3, e4, e5⟩ := z
      have hb : q ≠ p := fun z => by subst z; exact fr i _ hs rfl e1
      exact ⟨q, u, e1, by rw [upd_ne hb]; exact e2, by rw [upd_ne hb]; exact e3, CoOk.mono ff e4, e5⟩
end
section
variable {X : Cx} {C : Cf} {ek ev : Expr} {ta tb : De} {pos : Pos}
open Classical in
theorem pd_dis1 (hu : X.A.units + 1 < cLine) (ha : PE X ek (up C ta)) (hb : PE X ev (up C tb)) : PE X (.Dict [some ek] [ev] pos) (up C (dDis ta tb)) := pe_weak (pe_dis1 hu ha hb) fun σ H Q ⟨G, δ, F, hC, k, h⟩ => by
  intro p hp
  have g0 := k.new0 hp
  have gm := k.notM hp
  refine ⟨G.apart p (.dT []), δ, F, hC, k.toApart hp, ?_⟩
  unfold dDis at h
  cases ea : ta δ with
  | bad => rw [ea] at h; exact h.elim
  | ex c δ1 => rw [ea] at h; exact h.elim
  | ok x δ1 =>
    rw [ea] at h
    cases x with
    | own c => exact h.elim
    | loc i => exact h.elim
    | fz d =>
      cases d with
      | tuple ds =>
        simp only at h
        intro v F1 H1 k1 f1 w1
        refine ⟨G.apart p (.dT []), δ1, F1, hC, k1, ?_⟩
        cases eb : tb δ1 with
        | bad => rw [eb] at h; exact h.elim
        | ex c δ2 => rw [eb] at h; exact h.elim
        | ok y δ2 =>
          rw [eb] at h
          cases y with
          | own c => exact h.elim
          | loc i => exact h.elim
          | fz e =>
            simp only at h
            obtain ⟨q, h9⟩ := okIf_fin h
            rw [Bool.and_eq_true] at q
            obtain ⟨q1, q2⟩ := q
            obtain ⟨ns, hns⟩ := Option.isSome_iff_exists.mp q2
            intro y F2 H2 k2 f2 w2
            have hp2 : H2 p = some (.dT []) := k2.h0 p _ gm upd_same
            have fp2 : F2 p = none := by
              cases ef : F2 p with
              | none => rfl
              | some u =>
                rcases k2.fn p (by rw [ef]; exact fun z => nomatch z) with z | z
                · cases e0 : G.F0 p with
                  | none => exact absurd e0 z
                  | some u0 => have := k.fh _ _ (k.f0 _ _ e0); rw [hp] at this; cases this
                · have z : (upd G.H0 p (HO.dT [])) p = none := z
                  rw [upd_same] at z
                  cases z
            have fr : ∀ (i : Nat) (s : Sl), δ2[i]? = some s → s.held = true → σ[i]? ≠ some (some (.ref p)) := fun i s hs hh hq => by
              have z := k2.sl i s hs
              cases s with
              | no => cases hh
              | fz d => cases hh
              | own c =>
                obtain ⟨q, u, e1, e2, e3, e4, e5, e6⟩ := z
                rw [hq] at e1
                cases e1
                have e6 : (upd G.H0 p (HO.dT [])) p = none := e6
                rw [upd_same] at e6
                cases e6
              | arg c =>
                obtain ⟨q, u, e1, e2, e3, e4, e5⟩ := z
                rw [hq] at e1
                cases e1
                exact gm i e5
            have w1 : Dp G.K F1 v (.tuple ds) := w1
            cases w1 with
            | @tup a xs _ a1 a2 =>
              have e2 := intsD_key hns a2
              subst e2
              refine ⟨hp2, a, _, rfl, k2.fh _ _ (f2 _ _ a1), ?_⟩
              have kb := (k2.ofApart g0).poke (o' := .dT [(ns.map Sum.inl, y)]) (by rw [hp2]; exact fun z => nomatch z) fp2 g0 fr
              exact h9 _ _ _ kb (f1.trans (f2.trans (same_upd fp2))) (.opq upd_same)
      | _ => exact h.elim
end
open Classical in
theorem r_dis {ta tb : De} {δ : DS} {ds : List D} {e : D} (ha : ta δ = .ok (.fz (.tuple ds)) δ) (hb : tb δ = .ok (.fz e) δ) (hi : (intsD ds).isSome = true) : dDis ta tb δ = .ok (.fz odD) δ := by
  unfold dDis
  simp only [ha, hb, hi]
  simp [okIf]
end DL

set_option Elab.async false
set_option linter.all false
set_option maxRecDepth 100000
set_option autoImplicit false
/-! enumerate(zip(xs, ys)) of two lists: what it does turn by turn -/
namespace DL
open PySem PySem.Spec PyProof.Rows L2
section
variable {P : Program} {w : World} {A : Around} {E : Value → Shared → Prop} {s : Shared}
theorem next_zip {z : Addr} {Q : Value → Shared → Prop} (hT : s.TypeIs (.ref z) "zip") (h : wpAny (model P w) A.in1 (Builtin.«zip.__next__» ⟨[.ref z], []⟩) (fun fin s' => ∃ v, fin = .done (.ret v) ∧ Q v s') E s) : wpAny (model P w) A (Builtin.SmallTypes.nextOf (.ref z)) Q E s := by
  unfold Builtin.SmallTypes.nextOf
  refine wpAny_bind (wpAny_callSpecial?_slot (name := Str.ofString "__next__") hT F.slot_zip_next (wpAny_call_entry F.slot_zip_next hT F.entry_zip_next ?_ (F.args_zip_next_1 _)))
  exact wpAny_mono h (fun fin s' ⟨v, e, q⟩ => ⟨v, e, wpAny_pure q⟩) fun _ _ e => e
/-- enumerate's turn, whatever it walks: the inner one has laid one thing -/
theorem enum_turn {e it : Addr} {i : Nat} {old : Value} {R : Heap → Prop} {Q : Value → Shared → Prop} (hE : IsEnum s.heap e it i old)
    (hR : ∀ h h', R h → (∀ b o, b ≠ e → h.get? b = some o → h'.get? b = some o) → R h')
    (hin : wpAny (model P w) A (Builtin.SmallTypes.nextOf (.ref it)) (fun x s1 => ∃ h1, s1 = { s with heap := h1 } ∧ x = .ref s.heap.objs.size ∧ h1.objs.size = s.heap.objs.size + 1 ∧ IsEnum h1 e it i old ∧ R h1) E s)
    (hQ : ∀ h' tk, IsEnumOut h' e it ((i : Int) + 1) (.ref s.heap.objs.size) (s.heap.objs.size + 1) → R h' → h'.get? (s.heap.objs.size + 1) = some { cls := .type "tuple", data := .seq #[.int i tk, .ref s.heap.objs.size] } → h'.objs.size = s.heap.objs.size + 2 →
      Q (.ref (s.heap.objs.size + 1)) { s with heap := h', toks := s.toks + 1 }) :
    wpAny (model P w) A (Builtin.«enumerate.__next__» ⟨[.ref e], []⟩) (fun fin s' => ∃ v, fin = .done (.ret v) ∧ Q v s') E s := by
  obtain ⟨hp, g, d, tk, os⟩ := s
  show wpAny _ _ (field (.ref e) 2 >>= _) _ _ _
  refine wpAny_bind (wpAny_field hE rfl (x := .ref it) rfl ?_)
  refine wpAny_bind (wpAny_mono hin (fun x s1 z => ?_) fun _ _ q => q)
  obtain ⟨g1, rfl, rfl, n1, E1, R1⟩ := z
  have n1 : g1.objs.size = hp.objs.size + 1 := n1
  show wpAny _ _ (field (.ref e) 3 >>= _) _ _ ⟨g1, g, d, tk, os⟩
  refine wpAny_bind (wpAny_field E1 rfl (x := rawInt i) rfl ?_)
  show wpAny _ _ (field (.ref e) 4 >>= _) _ _ ⟨g1, g, d, tk, os⟩
  refine wpAny_bind (wpAny_field E1 rfl (x := .none) rfl ?_)
  show wpAny _ _ (mkInt i >>= _) _ _ ⟨g1, g, d, tk, os⟩
  refine wpAny_bind (wpAny_mkInt ?_)
  show wpAny _ _ (setField (.ref e) 3 (rawInt ((i : Int) + 1)) >>= _) _ _ ⟨g1, g, d, tk + 1, os⟩
  refine wpAny_bind (wpAny_setField_rec E1 (by simp) fun g2 E2 S2 => ?_)
  replace S2 : Heap.SameBut e g1 g2 := S2
  replace E2 : IsEnum g2 e it ((i : Int) + 1) old := E2
  show wpAny _ _ (setField (.ref e) 4 .none >>= _) _ _ ⟨g2, g, d, tk + 1, os⟩
  refine wpAny_bind (wpAny_setField_rec E2 (by simp) fun g3 E3 S3 => ?_)
  replace S3 : Heap.SameBut e g2 g3 := S3
  replace E3 : IsEnum g3 e it ((i : Int) + 1) old := E3
  show wpAny _ _ (newTuple [.int i tk, .ref hp.objs.size] >>= _) _ _ ⟨g3, g, d, tk + 1, os⟩
  refine wpAny_bind (wpAny_newTuple ?_)
  have n3 : g3.objs.size = hp.objs.size + 1 := by rw [S3.1, S2.1, n1]
  have E4 : IsEnum (g3.push { cls := .type "tuple", data := .seq #[.int i tk, .ref hp.objs.size] }) e it ((i : Int) + 1) old := Heap.get?_push_of_some _ E3
  have R4 : R (g3.push { cls := .type "tuple", data := .seq #[.int i tk, .ref hp.objs.size] }) := hR _ _ R1 fun b o hb y => Heap.get?_push_of_some _ (S3.extBut b o hb (S2.extBut b o hb y))
  have T4 : (g3.push { cls := .type "tuple", data := .seq #[.int i tk, .ref hp.objs.size] }).get? (hp.objs.size + 1) = some { cls := .type "tuple", data := .seq #[.int i tk, .ref hp.objs.size] } := by rw [← n3]; exact Heap.get?_push_size _ rfl
  have n4 : (g3.push { cls := .type "tuple", data := .seq #[.int i tk, .ref hp.objs.size] }).objs.size = hp.objs.size + 2 := by rw [Heap.size_push, n3]
  have hel : e < hp.objs.size := Heap.lt_size hE
  show wpAny _ _ (Builtin.SmallTypes.ownedTupleIsFree (.ref e) >>= _) _ _ _
  rw [n3]
  generalize g3.push { cls := .type "tuple", data := .seq #[.int i tk, .ref hp.objs.size] } = g4 at E4 R4 T4 n4
  refine wpAny_bind ?_
  unfold Builtin.SmallTypes.ownedTupleIsFree
  refine wpAny_bind (wpAny_field E4 rfl (x := .none) rfl (wpAny_pure ?_))
  simp only [if_true]
  refine wpAny_bind (wpAny_rule ?_)
  refine wpAny_bind (wpAny_field E4 rfl (x := old) rfl ?_)
  refine wpAny_bind (wpAny_setField_rec E4 (by simp) fun g5 E5 S5 => ?_)
  replace S5 : Heap.SameBut e g4 g5 := S5
  replace E5 : IsEnum g5 e it ((i : Int) + 1) (.ref hp.objs.size) := E5
  show wpAny _ _ (Builtin.SmallTypes.ownedTupleHandOut (.ref e) (.ref (hp.objs.size + 1)) >>= _) _ _ _
  refine wpAny_bind ?_
  unfold Builtin.SmallTypes.ownedTupleHandOut
  refine wpAny_bind (wpAny_setField_rec E5 (by simp) fun g6 E6 S6 => ?_)
  replace S6 : Heap.SameBut e g5 g6 := S6
  replace E6 : IsEnumOut g6 e it ((i : Int) + 1) (.ref hp.objs.size) (hp.objs.size + 1) := E6
  refine wpAny_setField_rec E6 (by simp) fun g7 E7 S7 => ?_
  replace S7 : Heap.SameBut e g6 g7 := S7
  replace E7 : IsEnumOut g7 e it ((i : Int) + 1) (.ref hp.objs.size) (hp.objs.size + 1) := E7
  have up : ∀ b o, b ≠ e → g4.get? b = some o → g7.get? b = some o := fun b o hb y => S7.extBut b o hb (S6.extBut b o hb (S5.extBut b o hb y))
  exact wpAny_bind (wpAny_letGo (wpAny_pure ⟨_, rfl, hQ g7 tk E7 (hR _ _ R4 up) (up _ _ (Nat.ne_of_gt (Nat.lt_succ_of_lt hel)) T4) (by rw [S7.1, S6.1, S5.1, n4])⟩))
theorem pyNext_enum {e it : Addr} {i : Int} {old : Value} {Q : Value → Shared → Prop} (hE : IsEnum s.heap e it i old) (h : ∀ E' : Value → Shared → Prop, wpAny (model P w) A.in1 (Builtin.«enumerate.__next__» ⟨[.ref e], []⟩) (fun fin s' => ∃ v, fin = .done (.ret v) ∧ Q v s') E' s) :
    wpAny (model P w) A (pyNext (.ref e)) (fun r s' => ∃ v, r = some v ∧ Q v s') E s := by
  have hT : s.TypeIs (.ref e) "enumerate" := ⟨_, hE, rfl⟩
  unfold pyNext
  refine wpAny_bind (wpAny_attempt (wpAny_callSpecial?_slot (name := Str.ofString "__next__") hT F.slot_enumerate_next (wpAny_call_entry F.slot_enumerate_next hT F.entry_enumerate_next ?_ (F.args_enumerate_next_1 _))))
  exact wpAny_mono (h _) (fun fin s' ⟨v, e, q⟩ => ⟨v, e, wpAny_pure ⟨v, rfl, q⟩⟩) fun _ _ e => e
end
end DL

set_option Elab.async false
set_option linter.all false
set_option maxRecDepth 100000
set_option autoImplicit false
/-! enumerate(zip(xs, ys)): its turns over what is tracked -/
namespace DL
open PySem PySem.Spec PyProof.Rows L2
/-- the chain's objects, T the first pair that was told -/
def EzSt (a b e z TI TO i1 i2 : Addr) (i : Nat) (T : Addr) (h : Heap) : Prop :=
  (∃ old, IsEnum h e z i old) ∧ IsPair h TI (.ref i1) (.ref i2) ∧ (∃ x y, IsPair h TO x y) ∧ h.IsListIter i1 a i ∧ h.IsListIter i2 b i ∧ ((i = 0 ∧ IsZip h z TI TO .none) ∨ (0 < i ∧ ∃ f, IsZipHeld h z TI TO T f))
structure EzAp (a b e z TI TO i1 i2 : Addr) : Prop where
  D : ZipApart z TI TO i1 i2 a b
  ez : e ≠ z
  eTI : e ≠ TI
  eTO : e ≠ TO
  ei1 : e ≠ i1
  ei2 : e ≠ i2
section
variable {a b e z TI TO i1 i2 : Addr} {X : Cx} {pins : List (Addr × Obj)} {σ : L2.St} {H : Hp} {s : Shared} {i : Nat} {T : Addr}
theorem EzSt.lt {h : Heap} (st : EzSt a b e z TI TO i1 i2 i T h) : ∀ c ∈ [e, z, TI, TO, i1, i2], c < h.objs.size := fun c hc => by
  obtain ⟨⟨old, hE⟩, hTI, ⟨x0, y0, hTO⟩, h1, h2, hz⟩ := st
  have q : c = e ∨ c = z ∨ c = TI ∨ c = TO ∨ c = i1 ∨ c = i2 := by simpa using hc
  rcases q with rfl | rfl | rfl | rfl | rfl | rfl
  · exact Heap.lt_size hE
  · rcases hz with ⟨_, hz⟩ | ⟨_, f, hz⟩ <;> exact Heap.lt_size hz
  · exact Heap.lt_size hTI
  · exact Heap.lt_size hTO
  · obtain ⟨_, q, _⟩ := h1; exact Heap.lt_size q
  · obtain ⟨_, q, _⟩ := h2; exact Heap.lt_size q
theorem EzSt.obj {h : Heap} (st : EzSt a b e z TI TO i1 i2 i T h) : ∀ c ∈ [e, z, TI, TO, i1, i2], ∃ o, h.get? c = some o ∧ ∀ v, o.data ≠ .cell v := fun c hc => by
  obtain ⟨⟨old, hE⟩, hTI, ⟨x0, y0, hTO⟩, h1, h2, hz⟩ := st
  have q : c = e ∨ c = z ∨ c = TI ∨ c = TO ∨ c = i1 ∨ c = i2 := by simpa using hc
  rcases q with rfl | rfl | rfl | rfl | rfl | rfl
  · exact ⟨_, hE, fun v q => nomatch q⟩
  · rcases hz with ⟨_, hz⟩ | ⟨_, f, hz⟩ <;> exact ⟨_, hz, fun v q => nomatch q⟩
  · exact ⟨_, hTI, fun v q => nomatch q⟩
  · exact ⟨_, hTO, fun v q => nomatch q⟩
  · obtain ⟨o, q, _, d⟩ := h1; exact ⟨o, q, fun v w => by rw [d] at w; cases w⟩
  · obtain ⟨o, q, _, d⟩ := h2; exact ⟨o, q, fun v w => by rw [d] at w; cases w⟩
theorem EzSt.keep {h h' : Heap} (st : EzSt a b e z TI TO i1 i2 i T h) (k : ∀ c ∈ [e, z, TI, TO, i1, i2], ∀ o, h.get? c = some o → h'.get? c = some o) : EzSt a b e z TI TO i1 i2 i T h' := by
  obtain ⟨⟨old, hE⟩, hTI, ⟨x0, y0, hTO⟩, h1, h2, hz⟩ := st
  refine ⟨⟨old, k e (by simp) _ hE⟩, k TI (by simp) _ hTI, ⟨x0, y0, k TO (by simp) _ hTO⟩, h1.at fun o q => k i1 (by simp) o q, h2.at fun o q => k i2 (by simp) o q, ?_⟩
  rcases hz with ⟨q, hz⟩ | ⟨q, f, hz⟩
  · exact .inl ⟨q, k z (by simp) _ hz⟩
  · exact .inr ⟨q, f, k z (by simp) _ hz⟩
set_option maxHeartbeats 1000000 in
theorem ez_item (Y : EzAp a b e z TI TO i1 i2) {elts : List Expr} {kk : Nat} {tpos : Pos} (E : Value → Shared → Prop) (I : L2.Inv X pins σ H s) (hf : ∀ c ∈ [e, z, TI, TO, i1, i2], FpOk X pins H c) (st : EzSt a b e z TI TO i1 i2 i T s.heap)
    {xs ys : List V} {x y : V} (hqx : SqL X.K H a xs) (hqy : SqL X.K H b ys) (hx : xs[i]? = some x) (hy : ys[i]? = some y) (hT : 0 < i → ∃ zs, H T = some (.tup zs)) :
    wpAny (model X.prog X.w) X.A (pyNext (.ref e)) (fun r s1 => ∃ u, r = some u ∧ wpAny (model X.prog X.w) X.A (letOwnedTupleGo (.Tuple elts kk tpos) (.ref e) u) (fun _ s2 => ∃ (n T' : Addr), L2.Inv X pins σ (upd (upd H n (.tup [x, y])) (n + 1) (.tup [.int (i : Nat), .ref n])) s2 ∧ u = .ref (n + 1) ∧ H n = none ∧ H (n + 1) = none ∧ T' = (if i = 0 then n else T) ∧ EzSt a b e z TI TO i1 i2 (i + 1) T' s2.heap ∧ ∀ c ∈ [e, z, TI, TO, i1, i2], (upd (upd H n (.tup [x, y])) (n + 1) (.tup [.int (i : Nat), .ref n])) c = none) E s1) E s := by
  have hlt := st.lt
  obtain ⟨D, ez, eTI, eTO, ei1, ei2⟩ := Y
  obtain ⟨⟨old, hE⟩, hTI, ⟨x0, y0, hTO⟩, h1, h2, hz⟩ := st
  obtain ⟨its, rv, p, _⟩ := I.list hqx
  obtain ⟨its2, rv2, p2, _⟩ := I.list hqy
  obtain ⟨u, hu, ru⟩ := rv.get hx
  obtain ⟨u2, hu2, ru2⟩ := rv2.get hy
  have hu : its.toArray[i]? = some u := by simpa using hu
  have hu2 : its2.toArray[i]? = some u2 := by simpa using hu2
  have hzlt := hlt z (by simp)
  have fn : H s.heap.objs.size = none := I.hok.fresh (Nat.le_refl _)
  have fn1 : H (s.heap.objs.size + 1) = none := I.hok.fresh (Nat.le_succ _)
  -- what stands behind the zip's turn
  let R : Heap → Prop := fun h => ∃ g : Heap, g.objs.size = s.heap.objs.size + 1 ∧ L2.Inv X pins σ (upd H s.heap.objs.size (.tup [x, y])) { s with heap := g } ∧ IsPair g TI (.ref i1) (.ref i2) ∧ (∃ v w, IsPair g TO v w) ∧ g.IsListIter i1 a (i + 1) ∧ g.IsListIter i2 b (i + 1) ∧ (∃ f, IsZipHeld g z TI TO (if i = 0 then s.heap.objs.size else T) f) ∧ ∀ c o, c ≠ e → g.get? c = some o → h.get? c = some o
  have hR : ∀ h h', R h → (∀ c o, c ≠ e → h.get? c = some o → h'.get? c = some o) → R h' := fun h h' ⟨g, a1, a2, a3, a4, a5, a6, a7, a8⟩ k => ⟨g, a1, a2, a3, a4, a5, a6, a7, fun c o hc q => k c o hc (a8 c o hc q)⟩
  have laid : ∀ g : Heap, g.objs.size = s.heap.objs.size + 1 → IsPair g s.heap.objs.size u u2 → (∀ c o, c ≠ z → c ≠ TO → c ≠ i1 → c ≠ i2 → s.heap.get? c = some o → g.get? c = some o) → L2.Inv X pins σ (upd H s.heap.objs.size (.tup [x, y])) { s with heap := g } := fun g n1 hp k =>
    I.turnedNew (t' := s.toks) (ch := [e, z, TI, TO, i1, i2]) (fun c o hc q => k c o (fun w => hc (by simp [w])) (fun w => hc (by simp [w])) (fun w => hc (by simp [w])) (fun w => hc (by simp [w])) q) hf (Nat.le_refl _) ⟨by show 2 ≤ sizeLine; decide, [u, u2], .cons ru (.cons ru2 .nil), ⟨_, hp, rfl, _, rfl⟩⟩
  have hTz : s.TypeIs (.ref z) "zip" := by
    rcases hz with ⟨_, hz⟩ | ⟨_, f, hz⟩
    · exact ⟨_, hz, rfl⟩
    · exact ⟨_, hz, rfl⟩
  have hin : ∀ (A : Around) (E' : Value → Shared → Prop), wpAny (model X.prog X.w) A (Builtin.SmallTypes.nextOf (.ref z)) (fun v s1 => ∃ g, s1 = { s with heap := g } ∧ v = .ref s.heap.objs.size ∧ g.objs.size = s.heap.objs.size + 1 ∧ IsEnum g e z i old ∧ R g) E' s := fun A E' => by
    refine next_zip hTz ?_
    rcases hz with ⟨i0, hz⟩ | ⟨i0, f, hz⟩
    · refine zip_next_item D hz hTI hTO h1 h2 p.isList p2.isList hu hu2 fun g q1 q2 q3 q4 q5 q6 q7 => ⟨g, rfl, rfl, q6, q7 e _ ez eTO ei1 ei2 hE, g, q6, laid g q6 q5 q7, q7 TI _ D.TIz D.TITO D.TIi1 D.TIi2 hTI, ⟨_, _, q2⟩, q3, q4, ⟨false, ?_⟩, fun _ _ _ q => q⟩
      rw [if_pos i0]
      exact q1
    · obtain ⟨zs, hH⟩ := hT i0
      obtain ⟨_, _, _, oT, hTo, _⟩ := (show ObjOk X.prog X.w H s.heap T (.tup zs) from I.hok T _ hH)
      refine zip_next_item_held D hz hTo hTI h1 h2 p.isList p2.isList hu hu2 fun g q1 q3 q4 q5 q6 q7 => ⟨g, rfl, rfl, q6, q7 e _ ez ei1 ei2 hE, g, q6, laid g q6 q5 (fun c o c1 _ c3 c4 w => q7 c o c1 c3 c4 w), q7 TI _ D.TIz D.TIi1 D.TIi2 hTI, ⟨_, _, q7 TO _ D.TOz D.TOi1 D.TOi2 hTO⟩, q3, q4, ⟨true, ?_⟩, fun _ _ _ q => q⟩
      rw [if_neg (Nat.ne_of_gt i0)]
      exact q1
  refine wpAny_mono (pyNext_enum (Q := fun v s1 => v = .ref (s.heap.objs.size + 1) ∧ ∃ h' tk, s1 = { s with heap := h', toks := s.toks + 1 } ∧ IsEnumOut h' e z ((i : Int) + 1) (.ref s.heap.objs.size) (s.heap.objs.size + 1) ∧ R h' ∧ h'.get? (s.heap.objs.size + 1) = some { cls := .type "tuple", data := .seq #[.int i tk, .ref s.heap.objs.size] }) hE fun E' => enum_turn hE hR (hin _ E') fun h' tk q1 q2 q3 q4 => ⟨rfl, h', tk, rfl, q1, q2, q3⟩) (fun r s1 ⟨v, er, ev, h', tk, es, q1, q2, q3⟩ => ?_) fun _ _ q => q
  subst er ev es
  refine ⟨_, rfl, wpAny_letOwnedTupleGo_enum q1 fun h2' q4 q5 => ?_⟩
  have q5 : Heap.SameBut e h' h2' := q5
  obtain ⟨g, a1, a2, a3, a4, a5, a6, ⟨f, a7⟩, a8⟩ := q2
  have up : ∀ c o, c ≠ e → g.get? c = some o → h2'.get? c = some o := fun c o hc q => q5.extBut c o hc (a8 c o hc q)
  have hf2 : ∀ c ∈ [e, z, TI, TO, i1, i2], FpOk X pins (upd H s.heap.objs.size (.tup [x, y])) c := fun c hc => ⟨by rw [upd_ne (Nat.ne_of_lt (hlt c hc))]; exact (hf c hc).1, (hf c hc).2⟩
  have hel := hlt e (by simp)
  have hT2 : h2'.get? (s.heap.objs.size + 1) = some { cls := .type "tuple", data := .seq #[.int i tk, .ref s.heap.objs.size] } := q5.extBut _ _ (Nat.ne_of_gt (Nat.lt_succ_of_lt hel)) q3
  have a1 : ({ s with heap := g } : Shared).heap.objs.size ≤ s.heap.objs.size + 1 := Nat.le_of_eq a1
  have I2 : L2.Inv X pins σ (upd (upd H s.heap.objs.size (.tup [x, y])) (s.heap.objs.size + 1) (.tup [.int (i : Nat), .ref s.heap.objs.size])) { s with heap := h2', toks := s.toks + 1 } :=
    a2.turnedNew (t' := s.toks + 1) (ch := [e, z, TI, TO, i1, i2]) (fun c o hc q => up c o (fun w => hc (by simp [w])) q) hf2 a1 ⟨by show 2 ≤ sizeLine; decide, [.int i tk, .ref s.heap.objs.size], .cons ⟨_, rfl⟩ (.cons rfl .nil), ⟨_, hT2, rfl, _, rfl⟩⟩
  refine ⟨s.heap.objs.size, _, I2, rfl, fn, fn1, rfl, ⟨⟨.ref s.heap.objs.size, ?_⟩, up TI _ eTI.symm a3, ?_, a5.at fun o q => up i1 o ei1.symm q, a6.at fun o q => up i2 o ei2.symm q, .inr ⟨Nat.succ_pos _, f, up z _ ez.symm a7⟩⟩, fun c hc => ?_⟩
  · rw [show ((i + 1 : Nat) : Int) = (i : Int) + 1 by omega]
    exact q4
  · obtain ⟨v, w, q⟩ := a4
    exact ⟨v, w, up TO _ eTO.symm q⟩
  · have := hlt c hc
    rw [upd_ne (Nat.ne_of_lt (Nat.lt_succ_of_lt this)), upd_ne (Nat.ne_of_lt this)]
    exact (hf c hc).1
end
end DL

set_option Elab.async false
set_option linter.all false
set_option maxRecDepth 100000
set_option autoImplicit false
/-! enumerate(zip(xs, ys)): its end, and a loop over it -/
namespace DL
open PySem PySem.Spec PyProof.Rows L2
section
variable {a b e z TI TO i1 i2 : Addr} {X : Cx} {pins : List (Addr × Obj)} {σ : L2.St} {H : Hp} {s : Shared} {i : Nat} {T : Addr}
theorem ez_done (Y : EzAp a b e z TI TO i1 i2) (hc : X.calm = true) (E : Value → Shared → Prop) (I : L2.Inv X pins σ H s) (hf : ∀ c ∈ [e, z, TI, TO, i1, i2], FpOk X pins H c) (st : EzSt a b e z TI TO i1 i2 i T s.heap)
    {xs ys : List V} (hqx : SqL X.K H a xs) (hqy : SqL X.K H b ys) (hend : xs.length ≤ i ∨ ys.length ≤ i) (hT : 0 < i → ∃ zs, H T = some (.tup zs)) :
    wpAny (model X.prog X.w) X.A (pyNext (.ref e)) (fun r s1 => r = none ∧ L2.Inv X pins σ H s1) E s := by
  have hd : X.A.in1.handled = none := I.ok.hd hc
  obtain ⟨D, ez, eTI, eTO, ei1, ei2⟩ := Y
  obtain ⟨⟨old, hE⟩, hTI, ⟨x0, y0, hTO⟩, h1, h2, hz⟩ := st
  obtain ⟨its, rv, p, _⟩ := I.list hqx
  obtain ⟨its2, rv2, p2, _⟩ := I.list hqy
  have l1 := rv.length
  have l2 := rv2.length
  have he : its.toArray[i]? = none ∨ its2.toArray[i]? = none := by
    rcases hend with q | q
    · exact .inl (by simp; omega)
    · exact .inr (by simp; omega)
  have hTe : s.TypeIs (.ref e) "enumerate" := ⟨_, hE, rfl⟩
  have hTz : s.TypeIs (.ref z) "zip" := by
    rcases hz with ⟨_, hz⟩ | ⟨_, f, hz⟩
    · exact ⟨_, hz, rfl⟩
    · exact ⟨_, hz, rfl⟩
  have fin : ∀ h' : Heap, (∀ c o, c ≠ z → c ≠ TO → c ≠ i1 → c ≠ i2 → s.heap.get? c = some o → h'.get? c = some o) → L2.Inv X pins σ H { s with heap := h' } := fun h' k =>
    I.turnedL (t' := s.toks) (ch := [e, z, TI, TO, i1, i2]) (fun c o hc q => k c o (fun w => hc (by simp [w])) (fun w => hc (by simp [w])) (fun w => hc (by simp [w])) (fun w => hc (by simp [w])) q) hf
  unfold pyNext
  refine wpAny_bind (wpAny_attempt (wpAny_callSpecial?_slot (name := Str.ofString "__next__") hTe F.slot_enumerate_next (wpAny_call_entry F.slot_enumerate_next hTe F.entry_enumerate_next ?_ (F.args_enumerate_next_1 _))))
  show wpAny _ _ (field (.ref e) 2 >>= _) _ _ _
  refine wpAny_bind (wpAny_field hE rfl (x := .ref z) rfl ?_)
  refine wpAny_bind ?_
  unfold Builtin.SmallTypes.nextOf
  refine wpAny_bind (wpAny_callSpecial?_slot (name := Str.ofString "__next__") hTz F.slot_zip_next (wpAny_call_entry F.slot_zip_next hTz F.entry_zip_next ?_ (F.args_zip_next_1 _)))
  rcases hz with ⟨i0, hz⟩ | ⟨i0, f, hz⟩
  · refine zip_next_end hd D hz hTI hTO h1 h2 p.isList p2.isList he fun h' x k hx => ?_
    obtain ⟨o, ho, hcl⟩ := hx
    refine wpAny_bind (wpAny_isInstance (T := "StopIteration") (b := true) ⟨o, ho, hcl⟩ isSubtype_stop ?_)
    exact wpAny_pure ⟨rfl, fin _ k⟩
  · obtain ⟨zs, hH⟩ := hT i0
    obtain ⟨_, _, _, oT, hTo, _⟩ := (show ObjOk X.prog X.w H s.heap T (.tup zs) from I.hok T _ hH)
    refine zip_next_end_held hd D hz hTo hTI h1 h2 p.isList p2.isList he fun h' x k hx => ?_
    obtain ⟨o, ho, hcl⟩ := hx
    refine wpAny_bind (wpAny_isInstance (T := "StopIteration") (b := true) ⟨o, ho, hcl⟩ isSubtype_stop ?_)
    exact wpAny_pure ⟨rfl, fin _ fun c o c1 _ c3 c4 q => k c o c1 c3 c4 q⟩
end
end DL

set_option Elab.async false
set_option linter.all false
set_option maxRecDepth 100000
set_option autoImplicit false
/-! for i, (x, y) in enumerate(zip(xs, ys)), over data -/
namespace DL
open PySem PySem.Spec PyProof.Rows L2
set_option maxHeartbeats 1000000 in
theorem meets_enumZ (z : Addr) :
    Meets (Builtin.«enumerate.__new__» ⟨[.type "enumerate", .ref z], []⟩) (fun _ R s => (∃ TI TO, IsZip s.heap z TI TO .none) ∧
      R (.ok (.ret (.ref s.heap.objs.size))) { s with heap := s.heap.push { cls := .type "enumerate", data := .fields #[.none, .bool false, .ref z, rawInt 0, .none, .none] } }) :=
  .of_wp fun prog w A R s h => by
    obtain ⟨hp, g, d, tk, os⟩ := s; obtain ⟨⟨TI, TO, hz⟩, h⟩ := h
    have hsub := sub_enumerate
    have q1 : ∀ {A' : Around} {E : Value → Shared → Prop} {Q : Value → Shared → Prop}, Q (.ref z) ⟨hp, g, d, tk, os⟩ → wpAny (model prog w) A' (pyIter (.ref z)) Q E ⟨hp, g, d, tk, os⟩ :=
      fun q => wpAny_pyIter_zip hz q
    wp_walk using q1
    refine wpAny_stack_any fun st => wpAny_pure ?_
    split
    · rename_i c _ _ _ _ _
      cases (c == Value.type "enumerate")
      · wp_walk using q1
        exact ⟨_, rfl, h⟩
      · wp_walk using q1
        exact ⟨_, rfl, h⟩
    · wp_walk using q1
      exact ⟨_, rfl, h⟩
theorem enum_ofZip {prog : Program} {w : World} {A : Around} {E : Value → Shared → Prop} {s : Shared} {z TI TO : Addr} {Q : Value → Shared → Prop} (hz : IsZip s.heap z TI TO .none)
    (h : ∀ h', IsEnum h' s.heap.objs.size z 0 .none → (∀ b o, s.heap.get? b = some o → h'.get? b = some o) → h'.objs.size = s.heap.objs.size + 1 → Q (.ref s.heap.objs.size) { s with heap := h' }) :
    wpAny (model prog w) A (call (.type "enumerate") [.ref z]) Q E s := by
  refine callType_new F.called_enumerate (by decide) (F.typeCall_enumerate_1 _) (F.newCall_enumerate_1 _) (fun obj => F.args_object_init_2 obj _) F.entry_enumerate_new
    (meets_enumZ z) ⟨⟨TI, TO, hz⟩, ?_⟩
  have he : IsEnum (s.heap.push { cls := .type "enumerate", data := .fields #[.none, .bool false, .ref z, rawInt 0, .none, .none] }) s.heap.objs.size z 0 .none := Heap.get?_push_size _ rfl
  exact ⟨⟨_, he, rfl⟩, h _ he (fun b o x => Heap.get?_push_of_some _ x) (Heap.size_push ..)⟩
section
variable {X : Cx} {ea eb : Expr} {ta : TA} {p p2 pos pos2 : Pos}
theorem ez_eval (hg1 : Gl X "enumerate") (hm1 : X.mg "enumerate" = none) (hg2 : Gl X "zip") (hm2 : X.mg "zip" = none) (ha : PA X [ea, eb] ta)
    (hs1 : starEach [.Call (.Name "zip" p2) [ea, eb] [] pos2] X.env = [(false, eval (.Call (.Name "zip" p2) [ea, eb] [] pos2) X.env)]) (hs : starEach [ea, eb] X.env = (false, eval ea X.env) :: starEach [eb] X.env) (hpl : (backTo pos2 (starEach [eb] X.env)).any (·.1) = false)
    {pins : List (Addr × Obj)} {s : Shared} {σ : L2.St} {H : Hp} {R : Addr → Addr → Hp → Prop} (I : L2.Inv X pins σ H s) (h : ta σ H fun vs H1 => ∃ a b xs ys, vs = [.ref a, .ref b] ∧ SqL X.K H1 a xs ∧ SqL X.K H1 b ys ∧ R a b H1) :
    wpAny (model X.prog X.w) X.A (eval (.Call (.Name "enumerate" p) [.Call (.Name "zip" p2) [ea, eb] [] pos2] [] pos) X.env) (fun v s1 => wpAny (model X.prog X.w) X.A (pyIter v) (fun itv s2 => ∃ a b e z TI TO i1 i2 H1, itv = .ref e ∧ L2.Inv X pins σ H1 s2 ∧ EzAp a b e z TI TO i1 i2 ∧ EzSt a b e z TI TO i1 i2 0 0 s2.heap ∧ (∀ c ∈ [e, z, TI, TO, i1, i2], FpOk X pins H1 c) ∧ R a b H1) X.xe s1) X.xe s := by
  have zp : wpAny (model X.prog X.w) X.A (eval (.Call (.Name "zip" p2) [ea, eb] [] pos2) X.env) (fun v s1 => ∃ (n a b : Addr) (H1 : Hp), v = .ref (n + 4) ∧ a < n ∧ b < n ∧ H1 n = none ∧ s1.heap.objs.size = n + 5 ∧ L2.Inv X pins σ H1 s1 ∧ IsZip s1.heap (n + 4) (n + 2) (n + 3) .none ∧ IsPair s1.heap (n + 2) (.ref n) (.ref (n + 1)) ∧ IsPair s1.heap (n + 3) .none .none ∧ s1.heap.IsListIter n a 0 ∧ s1.heap.IsListIter (n + 1) b 0 ∧ (∀ c, n ≤ c → FpOk X pins H1 c) ∧ R a b H1) X.xe s := by
    refine Call_ (ld_blt I hg2 hm2 PyProof.Rows.boot_zip (PyProof.Rows.callWith_type1 (thn (ha.run pos2 pins s σ H _ I h) fun us s1 ⟨vs, H1, I1, r1, q1⟩ => ?_) hs hpl))
    obtain ⟨a, b, xs, ys, ex, hqx, hqy, q⟩ := q1
    subst ex
    cases r1 with
    | cons r rr =>
      cases rr with
      | cons r' rr =>
        cases rr
        cases r
        cases r'
        obtain ⟨its, rv, p1, _⟩ := I1.list hqx
        obtain ⟨its2, rv2, p2', _⟩ := I1.list hqy
        refine call_zip_2 p1.isList p2'.isList fun h' hz hTI hTO h1 h2 hsz hk => ?_
        exact ⟨s1.heap.objs.size, a, b, H1, rfl, p1.lt, p2'.lt, I1.hok.fresh (Nat.le_refl _), hsz, I1.kept (t' := s1.toks) hk, hz, hTI, hTO, h1, h2, fun c hc => I1.fpOk hc (I1.hok.fresh hc), q⟩
  refine Call_ (ld_blt I hg1 hm1 boot_enumerate (PyProof.Rows.callWith_type1 ?_ hs1 rfl))
  rw [hs1]
  show wpAny _ _ (spliced ((false, eval (.Call (.Name "zip" p2) [ea, eb] [] pos2) X.env) :: backTo pos (starEach [] X.env))) _ _ s
  refine Calls.spliced_cons (thn zp fun v s1 ⟨n, a, b, H1, ev, la, lb, hn, hsz, I1, hz, hTI, hTO, h1, h2, hf, q⟩ => ?_)
  subst ev
  refine Calls.spliced_nil (enum_ofZip hz fun h' he hk hs' => ?_)
  rw [hsz] at he hs'
  have he : IsEnum h' (n + 5) (n + 4) 0 .none := he
  rw [hsz]
  refine wpAny_pyIter_enum he ?_
  have I2 : L2.Inv X pins σ H1 { s1 with heap := h' } := I1.kept (t' := s1.toks) hk
  refine ⟨a, b, n + 5, n + 4, n + 2, n + 3, n, n + 1, H1, rfl, I2, ⟨PySem.W.ktu_apart n a b la lb, Nat.ne_of_gt (Nat.add_lt_add_left (by decide : 4 < 5) n), Nat.ne_of_gt (Nat.add_lt_add_left (by decide : 2 < 5) n), Nat.ne_of_gt (Nat.add_lt_add_left (by decide : 3 < 5) n), Nat.ne_of_gt (Nat.add_lt_add_left (by decide : 0 < 5) n), Nat.ne_of_gt (Nat.add_lt_add_left (by decide : 1 < 5) n)⟩, ⟨⟨.none, he⟩, hk _ _ hTI, ⟨_, _, hk _ _ hTO⟩, h1.at fun o e => hk _ o e, h2.at fun o e => hk _ o e, .inl ⟨rfl, hk _ _ hz⟩⟩, fun c hc => hf c ?_, q⟩
  have w : c = n + 5 ∨ c = n + 4 ∨ c = n + 2 ∨ c = n + 3 ∨ c = n ∨ c = n + 1 := by simpa using hc
  rcases w with w | w | w | w | w | w
  · rw [w]; exact Nat.le_add_right _ _
  · rw [w]; exact Nat.le_add_right _ _
  · rw [w]; exact Nat.le_add_right _ _
  · rw [w]; exact Nat.le_add_right _ _
  · rw [w]; exact Nat.le_refl _
  · rw [w]; exact Nat.le_add_right _ _
end
def enZOf (ds : List D) (δ : DS) : R (List D) := match ds with
  | [.list l, .list m] => .ok (enumD (zipD l m)) δ
  | _ => .bad
def dEnZ (l : Dl) : Di := fun δ => (l δ).bind enZOf
section
variable [Tabs] {X : Cx} {C : Cf} {ea eb : Expr} {pos : Pos}
theorem pds_forEZ {tl : Dl} {g : Dg} {ts : List Nat} {body : List Stmt} {sb : Ds} {elts : List Expr} {kk : Nat} {tpos p p2 pos1 pos2 : Pos} (hp : PassesOwn (model X.prog X.w) X.A X.env X.xe) (hm1 : X.mg "enumerate" = none) (hm2 : X.mg "zip" = none)
    (ha : PA X [ea, eb] (upL C tl)) (hg : PG X (.Tuple elts kk tpos) (upG C ts g)) (hb : PSs X body (ups C sb)) (hc : X.calm = true := by rfl) (hK : C.K = X.K := by rfl) (hg1 : Gl X "enumerate" := by rfl) (hg2 : Gl X "zip" := by rfl)
    (hs1 : starEach [.Call (.Name "zip" p2) [ea, eb] [] pos2] X.env = [(false, eval (.Call (.Name "zip" p2) [ea, eb] [] pos2) X.env)] := by rfl) (hs2 : starEach [ea, eb] X.env = (false, eval ea X.env) :: starEach [eb] X.env := by rfl) (hpl : (backTo pos2 (starEach [eb] X.env)).any (·.1) = false := by rfl)
    (hs : ∀ x, foldedSetIterable (.Call (.Name "enumerate" p) [.Call (.Name "zip" p2) [ea, eb] [] pos2] [] pos1) X.env x = pure x := by intro _; rfl) :
    PS X (.For (.Tuple elts kk tpos) (.Call (.Name "enumerate" p) [.Call (.Name "zip" p2) [ea, eb] [] pos2] [] pos1) body [] pos) (ups C (dFor (dEnZ tl) g sb)) := by
  refine ⟨fun pins s σ H Dd I h => ?_⟩
  obtain ⟨G, δ, F, hC, k, h⟩ := h
  subst hC
  -- what the two lists come to
  have args : upL G.C tl σ H fun vs H1 => ∃ a b xs ys, vs = [.ref a, .ref b] ∧ SqL X.K H1 a xs ∧ SqL X.K H1 b ys ∧ ∃ (xs ys : List V) (δ1 : DS) (F1 : Hp) (l m : List D), F1 a = some (.lst xs) ∧ F1 b = some (.lst ys) ∧ DpAll G.K F1 xs l ∧ DpAll G.K F1 ys m ∧ St1 G δ1 σ F1 H1 ∧ finS G (forL (stepB g sb) (enumD (zipD l m)) δ1) F1 Dd := by
    refine ⟨G, δ, F, rfl, k, ?_⟩
    have h : finS G (((tl δ).bind enZOf).bind fun ds δ1 => forL (stepB g sb) ds δ1) F Dd := h
    have e : ((tl δ).bind enZOf).bind (fun ds δ1 => forL (stepB g sb) ds δ1) = (tl δ).bind fun ds δ1 => (enZOf ds δ1).bind fun ds δ1 => forL (stepB g sb) ds δ1 := by cases tl δ <;> rfl
    rw [e] at h
    refine finS_bind h fun ds δ1 vs F1 H1 k1 g1 w1 h1 => ?_
    have w1 : DpAll G.K F1 vs ds := w1
    have : ∃ l m, ds = [.list l, .list m] ∧ finS G (forL (stepB g sb) (enumD (zipD l m)) δ1) F1 Dd := by
      unfold enZOf at h1
      split at h1
      · exact ⟨_, _, rfl, h1⟩
      · exact h1.elim
    obtain ⟨l, m, rfl, h2⟩ := this
    cases w1 with
    | cons w ws =>
      cases ws with
      | cons w' ws =>
        cases ws
        cases w with
        | @lst a xs _ q0 q1 =>
          cases w' with
          | @lst b ys _ r0 r1 => exact ⟨a, b, xs, ys, rfl, SqL.of (k1.fh _ _ q0), SqL.of (k1.fh _ _ r0), xs, ys, δ1, F1, l, m, q0, r0, q1, r1, k1, h2⟩
  refine wpAny_For (thn (ez_eval (R := fun a b H1 => ∃ (xs ys : List V) (δ1 : DS) (F1 : Hp) (l m : List D), F1 a = some (.lst xs) ∧ F1 b = some (.lst ys) ∧ DpAll G.K F1 xs l ∧ DpAll G.K F1 ys m ∧ St1 G δ1 σ F1 H1 ∧ finS G (forL (stepB g sb) (enumD (zipD l m)) δ1) F1 Dd) hg1 hm1 hg2 hm2 ha hs1 hs2 hpl I args) fun v s1 h1 => thn h1 fun itv s2 h2 => ?_) hs
  obtain ⟨a, b, e, z, TI, TO, i1, i2, H2, eit, I2, Y, st2, f2, xs, ys, δ1, F1, l, m, qa, qb, wl, wm, k1, h1'⟩ := h2
  subst eit
  have stat : ∀ {H' : Hp}, (∀ c ∈ [e, z, TI, TO, i1, i2], H' c = none) → ∀ c ∈ [e, z, TI, TO, i1, i2], FpOk X pins H' c := fun hn c hc => ⟨hn c hc, (f2 c hc).2⟩
  let W : Nat → Nat → Addr → L2.St → Hp → Prop := fun i n T σ H => n = (enumD (zipD l m)).length - i ∧ i ≤ (enumD (zipD l m)).length ∧ ∃ δ F, St1 G δ σ F H ∧ Same F1 F ∧ finS G (forL (stepB g sb) ((enumD (zipD l m)).drop i) δ) F Dd ∧ (0 < i → ∃ zs, F T = some (.tup zs))
  refine codeAny_forLoop_any (fun n s' => ∃ i T σ' H', L2.Inv X pins σ' H' s' ∧ EzSt a b e z TI TO i1 i2 i T s'.heap ∧ (∀ c ∈ [e, z, TI, TO, i1, i2], H' c = none) ∧ W i n T σ' H') ?_ (enumD (zipD l m)).length ⟨0, 0, σ, H2, I2, st2, fun c hc => (f2 c hc).1, rfl, Nat.zero_le _, δ1, F1, k1, Same.refl F1, h1', fun q => absurd q (Nat.lt_irrefl 0)⟩
  rintro n s3 ⟨i, T, σ3, H3, I3, st3, fr3, rfl, hi, δ3, F3, k3, g3, h3, hT3⟩
  have hTH : 0 < i → ∃ zs, H3 T = some (.tup zs) := fun q => by
    obtain ⟨zs, w⟩ := hT3 q
    exact ⟨zs, k3.fh _ _ w⟩
  have sqa : SqL X.K H3 a xs := SqL.of (k3.fh _ _ (g3 _ _ qa))
  have sqb : SqL X.K H3 b ys := SqL.of (k3.fh _ _ (g3 _ _ qb))
  by_cases hlt : i < (enumD (zipD l m)).length
  · have hget := List.getElem?_eq_getElem hlt
    obtain ⟨d0, hd0, ed⟩ := enumD_of hget
    obtain ⟨x', y', hx', hy', ed0⟩ := zipD_of hd0
    subst ed0
    obtain ⟨x, ex1, ex2⟩ := dpa_get wl hx'
    obtain ⟨y, ey1, ey2⟩ := dpa_get wm hy'
    refine wpAny_passesOwn hp (thn (ez_item (elts := elts) (kk := kk) (tpos := tpos) Y X.xe I3 (stat fr3) st3 sqa sqb ex1 ey1 hTH) fun r s4 ⟨u, hr, h4⟩ => ?_)
    subst hr
    refine wpAny_passesOwn hp (thn h4 fun _ s5 ⟨nn, T', I5, eu, hn, hn1, eT, st5, fr5⟩ => ?_)
    subst eu
    have I5' := I5.pinned (stat fr5) st5.obj
    have hn1' : (upd H3 nn (.tup [x, y])) (nn + 1) = none := by rw [upd_ne (Nat.succ_ne_self nn)]; exact hn1
    have k5 := (k3.newFz (o := .tup [x, y]) hn).newFz (o := .tup [.int (i : Nat), .ref nn]) hn1'
    have ff1 : Same F3 (upd F3 nn (.tup [x, y])) := same_upd (k3.newF hn)
    have ff2 : Same (upd F3 nn (.tup [x, y])) (upd (upd F3 nn (.tup [x, y])) (nn + 1) (.tup [.int (i : Nat), .ref nn])) := same_upd ((k3.newFz (o := .tup [x, y]) hn).newF hn1')
    have ff := ff1.trans ff2
    have wd : Dp G.K (upd (upd F3 nn (.tup [x, y])) (nn + 1) (.tup [.int (i : Nat), .ref nn])) (.ref (nn + 1)) (.tuple [.int (i : Nat), .tuple [x', y']]) := by
      refine .tup upd_same (.cons (.int _) (.cons (.tup (ff2 _ _ upd_same) (.cons (dp_mono (g3.trans ff) _ _ ex2) (.cons (dp_mono (g3.trans ff) _ _ ey2) .nil))) .nil))
    have hTn : ∃ zs, (upd (upd F3 nn (.tup [x, y])) (nn + 1) (.tup [.int (i : Nat), .ref nn])) T' = some (.tup zs) := by
      rw [eT]
      by_cases i0 : i = 0
      · rw [if_pos i0]
        exact ⟨_, ff2 _ _ upd_same⟩
      · rw [if_neg i0]
        obtain ⟨zs, w⟩ := hT3 (Nat.pos_of_ne_zero i0)
        exact ⟨zs, ff _ _ w⟩
    rw [List.drop_eq_getElem_cons hlt] at h3
    have h5 := finS_mono h3 ff
    rw [ed] at h5
    let N : L2.St → Hp → Prop := fun σ' H' => ∃ δ F, St1 G δ σ' F H' ∧ Same F1 F ∧ finS G (forL (stepB g sb) ((enumD (zipD l m)).drop (i + 1)) δ) F Dd ∧ ∃ zs, F T' = some (.tup zs)
    have step : upG G.C ts g (.ref (nn + 1)) σ3 (upd (upd H3 nn (.tup [x, y])) (nn + 1) (.tup [.int (i : Nat), .ref nn])) fun σ2 H2 => ups G.C sb { Dd with nx := N, ct := N, bk := Dd.nx } σ2 H2 := by
      refine ⟨G, δ3, _, _, rfl, k5, wd, ?_⟩
      unfold forL stepB at h5
      cases e1 : g (.tuple [.int (i : Nat), .tuple [x', y']]) δ3 with
      | ok o δ4 =>
        rw [e1] at h5
        cases o with
        | nx =>
          intro σ' F' H' k' f' _
          refine ⟨G, δ4, F', rfl, k', ?_⟩
          have h6 := finS_mono h5 f'
          simp only at h6
          have gg : Same F1 F' := (g3.trans ff).trans f'
          obtain ⟨zs, hz⟩ := hTn
          have hz' := f' _ _ hz
          cases e2 : sb δ4 with
          | ok o δ5 =>
            rw [e2] at h6
            cases o with
            | nx => exact fun σ4 F4 H4 k4 f4 => ⟨δ5, F4, k4, gg.trans f4, finS_mono h6 f4, zs, f4 _ _ hz'⟩
            | ct => exact fun σ4 F4 H4 k4 f4 => ⟨δ5, F4, k4, gg.trans f4, finS_mono h6 f4, zs, f4 _ _ hz'⟩
            | bk => exact h6
            | rt v => exact h6
          | ex c δ5 => rw [e2] at h6; exact h6
          | bad => rw [e2] at h6; exact h6
        | bk => exact h5.elim
        | ct => exact h5.elim
        | rt v => exact h5.elim
      | ex c δ4 => rw [e1] at h5; exact h5.elim
      | bad => rw [e1] at h5; exact h5.elim
    refine wpAny_passesOwn hp (thn (hg.run _ s5 σ3 _ (.ref (nn + 1)) _ _ I5' rfl step) fun _ s6 ⟨σ6, H6, I6, q6⟩ => ?_)
    refine wpAny_passesOwn hp (thn (hb.run _ s6 σ6 H6 _ I6 q6) fun f s7 q7 => ?_)
    have again : ∀ {σ7 : L2.St} {H7 : Hp}, L2.Inv X (pins ++ pinsAt [e, z, TI, TO, i1, i2] s5.heap) σ7 H7 s7 → N σ7 H7 → ∃ q, q < (enumD (zipD l m)).length - i ∧ ∃ i T σ' H', L2.Inv X pins σ' H' s7 ∧ EzSt a b e z TI TO i1 i2 i T s7.heap ∧ (∀ c ∈ [e, z, TI, TO, i1, i2], H' c = none) ∧ W i q T σ' H' := fun {σ7 H7} I7 n7 => by
      obtain ⟨δ7, F7, a1, a2, a3, a4⟩ := n7
      refine ⟨(enumD (zipD l m)).length - (i + 1), by omega, i + 1, T', σ7, H7, I7.unpinned, st5.keep fun c hc o w => (I7.pin (c, o) (List.mem_append_right _ (List.mem_append_right _ (mem_pinsAt hc w)))).1, fun c hc => ?_, rfl, hlt, δ7, F7, a1, a2, a3, fun _ => a4⟩
      obtain ⟨o, w, d⟩ := st5.obj c hc
      exact (I7.pin (c, o) (List.mem_append_right _ (List.mem_append_right _ (mem_pinsAt hc w)))).2.1
    cases f with
    | next => obtain ⟨σ7, H7, I7, n7⟩ := q7; exact again I7 n7
    | cont => obtain ⟨σ7, H7, I7, n7⟩ := q7; exact again I7 n7
    | brk => obtain ⟨σ7, H7, I7, q7⟩ := q7; exact ⟨σ7, H7, I7.unpinned, q7⟩
    | ret v => obtain ⟨x7, σ7, H7, I7, r7, q7⟩ := q7; exact ⟨x7, σ7, H7, I7.unpinned, r7, q7⟩
  · have ei : i = (enumD (zipD l m)).length := by omega
    have hend : xs.length ≤ i ∨ ys.length ≤ i := by
      rw [ei, enumD_len, zipD_len, dpa_len wl, dpa_len wm]
      omega
    refine wpAny_passesOwn hp (thn (ez_done Y hc X.xe I3 (stat fr3) st3 sqa sqb hend hTH) fun r s4 ⟨hr, I4⟩ => ?_)
    subst hr
    rw [ei, List.drop_length] at h3
    exact wpAny_execs_nil ⟨σ3, H3, I4, h3 σ3 F3 H3 k3 (Same.refl F3)⟩
theorem i_enZ {l : Dl} {as bs : List D} {δ δ1 : DS} (hl : l δ = .ok [.list as, .list bs] δ1) : dEnZ l δ = .ok (enumD (zipD as bs)) δ1 := by
  unfold dEnZ
  rw [hl]
  rfl
end
end DL

set_option Elab.async false
set_option linter.all false
set_option maxRecDepth 100000
set_option autoImplicit false
/-! a comprehension within another one's element or test, that has no free names -/
namespace DL
open PySem PySem.Spec PyProof.Rows L2
def scNone : Scope := { kind := .function, names := [], isGenerator := false, isCoroutine := false }
theorem blkOk_nf {N : List Str} {sc scope : Scope} {own : List (Str × Nat)} (h : BlkOk N scNone scope own) : BlkOk N sc scope own := by
  refine ⟨h.kind, h.uniq, h.ix, fun y hy e => ?_, h.own⟩
  rcases h.free y hy e with k | k
  · exact nomatch k
  · exact nomatch k
end DL

set_option Elab.async false
set_option linter.all false
set_option maxRecDepth 100000
set_option autoImplicit false
/-! a sign within a text, or not -/
namespace DL
open PySem PySem.Spec PyProof.Rows L2
variable [Tabs]
section
variable {X : Cx} {C : Cf} {a b : Expr} {ta tb : De} {pos : Pos}
def sgn1 (z : Str) : Option Nat := match z.cps.toList with
  | [c] => some c
  | _ => none
theorem sgn1_some {z : Str} {c : Nat} (h : sgn1 z = some c) : z = ⟨#[c]⟩ := by
  unfold sgn1 at h
  split at h
  · rename_i d e
    cases h
    obtain ⟨⟨l⟩⟩ := z
    have e : l = [c] := e
    subst e
    rfl
  · cases h
def fInS : D → D → Option Vl
  | .str i, .str j => match sgn1 i with
    | some c => some (.fz (.bool (decide (c ∈ j.cps.toList))))
    | none => none
  | _, _ => none
def fNotInS : D → D → Option Vl
  | .str i, .str j => match sgn1 i with
    | some c => some (.fz (.bool (!decide (c ∈ j.cps.toList))))
    | none => none
  | _, _ => none
abbrev rIn1 : V → V → Hp → VK → Prop := fun x y H Q => ∃ (c : Nat) (z : Str), x = .str ⟨#[c]⟩ ∧ y = .str z ∧ Q (.bl (decide (c ∈ z.cps.toList))) H
abbrev rNotIn1 : V → V → Hp → VK → Prop := fun x y H Q => ∃ (c : Nat) (z : Str), x = .str ⟨#[c]⟩ ∧ y = .str z ∧ Q (.bl (!decide (c ∈ z.cps.toList))) H
theorem o_inS {K : PySem.W.Frag} : Op2 K rIn1 fInS := by
  intro G δ σ F H x y d e z Q hK k hx hy ez q
  cases d with
  | str i =>
    cases e with
    | str j =>
      have e1 := hx.str
      have e2 := hy.str
      subst e1 e2
      have ez : (match sgn1 i with | some c => some (Vl.fz (.bool (decide (c ∈ j.cps.toList)))) | none => none) = some z := ez
      cases hc : sgn1 i with
      | none => rw [hc] at ez; cases ez
      | some c =>
        rw [hc] at ez
        cases ez
        exact ⟨c, j, by rw [sgn1_some hc], rfl, q.fz k (.bl _)⟩
    | _ => cases ez
  | _ => cases ez
theorem o_notInS {K : PySem.W.Frag} : Op2 K rNotIn1 fNotInS := by
  intro G δ σ F H x y d e z Q hK k hx hy ez q
  cases d with
  | str i =>
    cases e with
    | str j =>
      have e1 := hx.str
      have e2 := hy.str
      subst e1 e2
      have ez : (match sgn1 i with | some c => some (Vl.fz (.bool (!decide (c ∈ j.cps.toList)))) | none => none) = some z := ez
      cases hc : sgn1 i with
      | none => rw [hc] at ez; cases ez
      | some c =>
        rw [hc] at ez
        cases ez
        exact ⟨c, j, by rw [sgn1_some hc], rfl, q.fz k (.bl _)⟩
    | _ => cases ez
  | _ => cases ez
theorem pd_inS (ha : PE X a (up C ta)) (hb : PE X b (up C tb)) (hm : behindInMarks .In b = false := by with_unfolding_all rfl) : PE X (.Compare a [.In] [b] pos) (up C (dBin fInS ta tb)) := pd_cmp op_in_sign o_inS ha hb hm
theorem pd_notinS (ha : PE X a (up C ta)) (hb : PE X b (up C tb)) (hm : behindInMarks .NotIn b = false := by with_unfolding_all rfl) : PE X (.Compare a [.NotIn] [b] pos) (up C (dBin fNotInS ta tb)) := pd_cmp op_notIn_sign o_notInS ha hb hm
theorem ptd_inS (ha : PE X a (up C ta)) (hb : PE X b (up C tb)) (hm : behindInMarks .In b = false := by with_unfolding_all rfl) : PT X (.Compare a [.In] [b] pos) (upT C (dTest (dBin fInS ta tb))) := pdt_cmp op_in_sign o_inS ha hb hm
theorem ptd_notinS (ha : PE X a (up C ta)) (hb : PE X b (up C tb)) (hm : behindInMarks .NotIn b = false := by with_unfolding_all rfl) : PT X (.Compare a [.NotIn] [b] pos) (upT C (dTest (dBin fNotInS ta tb))) := pdt_cmp op_notIn_sign o_notInS ha hb hm
end
end DL

set_option Elab.async false
set_option linter.all false
set_option maxRecDepth 100000
set_option autoImplicit false
/-! xs == []: whatever stands in xs -/
namespace DL
open PySem PySem.Spec PyProof.Rows L2
variable [Tabs]
section
variable {X : Cx} {C : Cf} {a b : Expr} {ta tb : De} {pos : Pos}
def rEqNil (K : PySem.W.Frag) : V → V → Hp → VK → Prop := fun x y H Q => ∃ p q xs, x = .ref p ∧ y = .ref q ∧ SqL K H p xs ∧ SqL K H q [] ∧ Q (.bl xs.isEmpty) H
theorem op_eqNil (hu : X.A.units < cLine) : OpR X (compareOp .Eq) (rEqNil X.K) := by
  intro pins s σ H x y v u Q I rx ry h
  obtain ⟨p, q, xs, rfl, rfl, h1, h2, hq⟩ := h
  obtain ⟨i1, r1, l1, _⟩ := I.list h1
  obtain ⟨i2, r2, l2, _⟩ := I.list h2
  have e1 : v = Value.ref p := rx
  have e2 : u = Value.ref q := ry
  subst e1 e2
  cases r2
  cases xs with
  | nil =>
    cases r1
    have z := PySem.SeqAt.RcAt.lists (A := X.A) (e := fun _ => true) l1.isList l2.isList rfl hu fun j h _ => absurd h (Nat.not_lt_zero _)
    exact z X.prog X.w X.xe _ ⟨.bl true, H, I, rfl, hq⟩
  | cons y ys =>
    cases r1 with
    | cons r rs =>
      have z := PySem.SeqAt.RcAt.lists_lengths (A := X.A) l1.isList l2.isList (by simp) hu
      exact z X.prog X.w X.xe _ ⟨.bl false, H, I, rfl, hq⟩
def fEqNil : D → D → Option Vl
  | .list ds, .list [] => some (.fz (.bool ds.isEmpty))
  | _, _ => none
theorem isEm {xs : List V} {ds : List D} {K : PySem.W.Frag} {F : Hp} (h : DpAll K F xs ds) : ds.isEmpty = xs.isEmpty := by
  cases h <;> rfl
theorem o_eqNil {K : PySem.W.Frag} : Op2 K (rEqNil K) fEqNil := by
  intro G δ σ F H x y d e z Q hK k hx hy ez q
  subst hK
  cases d with
  | list ds =>
    cases e with
    | list es =>
      cases es with
      | cons _ _ => cases ez
      | nil =>
        obtain ⟨p, vs, rfl, h1, h2⟩ := hx.list k.fh
        obtain ⟨p', vs', rfl, h1', h2'⟩ := hy.list k.fh
        cases h2'
        cases ez
        refine ⟨_, _, vs, rfl, rfl, SqL.of h1, SqL.of h1', ?_⟩
        rw [← isEm h2]
        exact q.fz k (.bl _)
    | _ => cases ez
  | _ => cases ez
theorem pd_eqNil (hu : X.A.units < cLine) (ha : PE X a (up C ta)) (hb : PE X b (up C tb)) (hK : C.K = X.K := by rfl) (hm : behindInMarks .Eq b = false := by with_unfolding_all rfl) : PE X (.Compare a [.Eq] [b] pos) (up C (dBin fEqNil ta tb)) := pe_weak (pe_cmpR (op_eqNil hu) ha hb hm) (rfK_bin (r := rEqNil) (fun _ => o_eqNil) hK)
theorem ptd_eqNil (hu : X.A.units < cLine) (ha : PE X a (up C ta)) (hb : PE X b (up C tb)) (hK : C.K = X.K := by rfl) (hm : behindInMarks .Eq b = false := by with_unfolding_all rfl) : PT X (.Compare a [.Eq] [b] pos) (upT C (dTest (dBin fEqNil ta tb))) := pt_weak (pt_cmpR (op_eqNil hu) ha hb hm) (rf_test (rfK_bin (r := rEqNil) (fun _ => o_eqNil) hK))
end
end DL

set_option Elab.async false
set_option linter.all false
set_option maxRecDepth 100000
set_option autoImplicit false
/-! xs != (): whatever stands in the tuple xs -/
namespace DL
open PySem PySem.Spec PyProof.Rows L2
variable [Tabs]
section
variable {X : Cx} {C : Cf} {a b : Expr} {ta tb : De} {pos : Pos}
def rNeNil (K : PySem.W.Frag) : V → V → Hp → VK → Prop := fun x y H Q => ∃ p q xs, x = .ref p ∧ y = .ref q ∧ SqT K H p xs ∧ SqT K H q [] ∧ Q (.bl (!xs.isEmpty)) H
theorem op_neNil (hu : X.A.units < cLine) : OpR X (compareOp .NotEq) (rNeNil X.K) := by
  intro pins s σ H x y v u Q I rx ry h
  obtain ⟨p, q, xs, rfl, rfl, h1, h2, hq⟩ := h
  obtain ⟨i1, r1, l1, _⟩ := I.tuple h1
  obtain ⟨i2, r2, l2, _⟩ := I.tuple h2
  have e1 : v = Value.ref p := rx
  have e2 : u = Value.ref q := ry
  subst e1 e2
  cases r2
  have z := PySem.SeqAt.RcNeAt.tuples (A := X.A) (e := fun _ => true) (show s.heap.IsTuple p i1.toArray from l1) (show s.heap.IsTuple q #[] from l2) hu fun j _ h => absurd h (Nat.not_lt_zero _)
  refine z X.prog X.w X.xe _ ?_
  cases r1 with
  | nil => exact ⟨.bl false, H, I, rfl, hq⟩
  | cons r rs => exact ⟨.bl true, H, I, by simp; rfl, hq⟩
def fNeNil : D → D → Option Vl
  | .tuple ds, .tuple [] => some (.fz (.bool (!ds.isEmpty)))
  | _, _ => none
theorem o_neNil {K : PySem.W.Frag} : Op2 K (rNeNil K) fNeNil := by
  intro G δ σ F H x y d e z Q hK k hx hy ez q
  subst hK
  cases d with
  | tuple ds =>
    cases e with
    | tuple es =>
      cases es with
      | cons _ _ => cases ez
      | nil =>
        obtain ⟨p, vs, rfl, h1, h2⟩ := hx.tup
        obtain ⟨p', vs', rfl, h1', h2'⟩ := hy.tup
        cases h2'
        cases ez
        refine ⟨_, _, vs, rfl, rfl, SqT.of (k.fh _ _ h1), SqT.of (k.fh _ _ h1'), ?_⟩
        rw [← isEm h2]
        exact q.fz k (.bl _)
    | _ => cases ez
  | _ => cases ez
theorem pd_neNil (hu : X.A.units < cLine) (ha : PE X a (up C ta)) (hb : PE X b (up C tb)) (hK : C.K = X.K := by rfl) (hm : behindInMarks .NotEq b = false := by with_unfolding_all rfl) : PE X (.Compare a [.NotEq] [b] pos) (up C (dBin fNeNil ta tb)) := pe_weak (pe_cmpR (op_neNil hu) ha hb hm) (rfK_bin (r := rNeNil) (fun _ => o_neNil) hK)
theorem ptd_neNil (hu : X.A.units < cLine) (ha : PE X a (up C ta)) (hb : PE X b (up C tb)) (hK : C.K = X.K := by rfl) (hm : behindInMarks .NotEq b = false := by with_unfolding_all rfl) : PT X (.Compare a [.NotEq] [b] pos) (upT C (dTest (dBin fNeNil ta tb))) := pt_weak (pt_cmpR (op_neNil hu) ha hb hm) (rf_test (rfK_bin (r := rNeNil) (fun _ => o_neNil) hK))
end
end DL

set_option Elab.async false
set_option linter.all false
set_option maxRecDepth 100000
set_option autoImplicit false
/-! repr of rows that hold empty dicts, at any depth -/
namespace DL
open PySem PySem.Spec PyProof.Rows L2
variable [Tabs]
mutual
def unD : D → D
  | .none => .none
  | .bool b => .bool b
  | .int i => .int i
  | .str z => .str z
  | .list ds => .list (unA ds)
  | .tuple ds => .tuple (unA ds)
  | .dict _ => .dict []
def unA : List D → List D
  | [] => []
  | d :: ds => unD d :: unA ds
end
def isE0 : List (D × D) → Bool
  | [(.bool true, .list []), (.bool false, .list [])] => true
  | _ => false
theorem isE0_eq {kvs : List (D × D)} (h : isE0 kvs = true) : kvs = [(.bool true, .list []), (.bool false, .list [])] := by
  unfold isE0 at h
  split at h
  · rfl
  · cases h
mutual
def okH : D → Bool
  | .none => true
  | .bool _ => true
  | .int i => decide (i.natAbs.log2 < 1920)
  | .str _ => true
  | .list ds => okHA ds
  | .tuple ds => okHA ds
  | .dict kvs => isE0 kvs
def okHA : List D → Bool
  | [] => true
  | d :: ds => okH d && okHA ds
end
def fReprH : D → Option Vl
  | .list ds => okO (okHA ds && decide ((unD (.list ds)).depth ≤ 64) && decide ((unD (.list ds)).shown.length ≤ sizeLine)) (some (.fz (.str (unD (.list ds)).shown)))
  | .tuple ds => okO (okHA ds && decide ((unD (.tuple ds)).depth ≤ 64) && decide ((unD (.tuple ds)).shown.length ≤ sizeLine)) (some (.fz (.str (unD (.tuple ds)).shown)))
  | .bool b => some (.fz (.str (if b then "True" else "False")))
  | d => fReprG d
theorem dp_dct0 {K : PySem.W.Frag} {H : Hp} {v : V} (h : Dp K H v (.dict [(.bool true, .list []), (.bool false, .list [])])) : ∃ (a : Addr) (od : Obj), v = V.ref a ∧ H a = some (.frz od (.dK [])) := by
  generalize e : (PyData.dict [(.bool true, .list []), (.bool false, .list [])] : D) = d0 at h
  cases h with
  | @dct a od ws ds h1 h2 =>
    have e2 : ws = [] := by
      cases ws with
      | nil => rfl
      | cons w ws => simp [dctD] at e
    subst e2
    exact ⟨a, od, rfl, h1⟩
  | scr _ => cases e
  | exc _ _ => cases e
  | _ => cases e
section
variable {X : Cx} {pins : List (Addr × Obj)} {σ : L2.St} {H : Hp} {s : Shared} {prog : Program} {w : World}
theorem dq_dict (I : Inv X pins σ H s) {a : Addr} {od : Obj} (ha : H a = some (.frz od (.dK []))) : ∃ bs, Reads s.heap (.ref a) (.dict []) [a] ∧ ReadAtMost s.heap (PyData.dict []).depth bs ∧ ReprK prog w bs s.heap (PyData.dict []).depth (.ref a) (PyData.dict []).shown := by
  obtain ⟨_, hs, ws, kw, o, es, ep, h1, h2, h3, _, h5, _⟩ := dk_rd I.hok (.inr ⟨od, ha⟩)
  cases kw
  have h4 : es.toList = [] := by
    cases hq : es.toList with
    | nil => rfl
    | cons x xs => rw [hq] at h5; cases h5
  have ra : Reads s.heap (.ref a) (.dict []) [a] := Reads.dict (as := []) (bs := []) h1 h2.1 h3 (by rw [h4]; exact .nil) (by rw [h4]; exact .nil)
  obtain ⟨bs, hb, k⟩ := ReprK.of_reads (prog := prog) (w := w) ra (by rfl) (fun _ z => by
    rw [List.mem_singleton] at z
    subst z
    simp at hs) (by decide)
  exact ⟨bs, ra, hb, k⟩
theorem unA_len : ∀ ds : List D, (unA ds).length = ds.length
  | [] => rfl
  | d :: ds => by show (unA ds).length + 1 = _; rw [unA_len ds]; rfl
mutual
theorem dq (I : Inv X pins σ H s) : ∀ (d : D) (v : V) (u : Value), okH d = true → Dp X.K H v d → RelV v u → (unD d).shown.length ≤ sizeLine →
    ∃ as bs, Reads s.heap u (unD d) as ∧ ReadAtMost s.heap (unD d).depth bs ∧ ReprK prog w bs s.heap (unD d).depth u (unD d).shown
  | .none, _, _, _, h, r, _ => by
    cases h
    cases r
    exact ⟨_, [], Reads.none, (fun _ h => nomatch h), ReprK.of_is ReprIs.none _ _ _⟩
  | .bool b, _, _, _, h, r, _ => by
    cases h
    cases r
    exact ⟨_, [], Reads.bool b, (fun _ h => nomatch h), by unfold unD; simp only [PyData.shown]; exact ReprK.of_is (ReprIs.bool b) _ _ _⟩
  | .int i, _, _, o, h, r, _ => by
    cases h
    obtain ⟨t, rfl⟩ := r
    exact ⟨_, [], Reads.int i t, (fun _ h => nomatch h), by unfold unD; simp only [PyData.shown]; exact ReprK.of_is (ReprIs.int t (by unfold okH at o; exact of_decide_eq_true o)) _ _ _⟩
  | .str x, _, _, _, h, r, hz => by
    cases h
    obtain ⟨t, rfl⟩ := r
    exact ⟨_, [], Reads.str x t, (fun _ h => nomatch h), by unfold unD; simp only [PyData.shown]; exact ReprK.of_is (ReprIs.str x t (by unfold unD at hz; simpa only [PyData.shown] using hz)) _ _ _⟩
  | .list ds, _, _, o, h, r, hz => by
    cases h with
    | lst hs ha =>
      cases r
      obtain ⟨its, rv, ⟨ob, n, h1, h2, _, h3⟩, _⟩ := I.list (SqL.of hs)
      have hz' : (listText (PyData.shownAll (unA ds))).length ≤ sizeLine := by unfold unD at hz; simpa only [PyData.shown] using hz
      obtain ⟨as, bs, h4, hb, hk⟩ := dqA I ds _ its (by unfold okH at o; exact o) ha rv (fun t ht => Nat.le_trans (listText_mem_le ht) hz')
      have r : Reads s.heap (.ref _) (.list (unA ds)) _ := .list h1 h2 h3 h4
      have hna : _ ∉ bs := not_mem_of_deeper r (by simp only [PyData.depth]; omega) hb
      refine ⟨_, _ :: bs, (by unfold unD; exact r), (by unfold unD; exact ReadAtMost.cons r (by simp only [PyData.depth]; omega) hb), ?_⟩
      unfold unD
      simp only [PyData.depth, PyData.shown]
      cases its with
      | nil =>
        cases rv
        cases ha
        simp only [unA, PyData.shownAll, listText_nil]
        exact ReprK.listEmpty h1 h2 h3
      | cons x l => exact ReprK.list h1 h2 h3 hna (by simpa using hk.length_eq) (fun i y e => hk.item i y (by simpa using e))
  | .tuple ds, _, _, o, h, r, hz => by
    cases h with
    | tup hs ha =>
      cases r
      obtain ⟨its, rv, ⟨ob, h1, h2, n, h3⟩, _⟩ := I.tuple (SqT.of hs)
      have hz' : (tupleText (PyData.shownAll (unA ds))).length ≤ sizeLine := by unfold unD at hz; simpa only [PyData.shown] using hz
      obtain ⟨as, bs, h4, hb, hk⟩ := dqA I ds _ its (by unfold okH at o; exact o) ha rv (fun t ht => Nat.le_trans (tupleText_mem_le ht) hz')
      have r : Reads s.heap (.ref _) (.tuple (unA ds)) _ := .tuple h1 h2 h3 h4
      have hna : _ ∉ bs := not_mem_of_deeper r (by simp only [PyData.depth]; omega) hb
      refine ⟨_, _ :: bs, (by unfold unD; exact r), (by unfold unD; exact ReadAtMost.cons r (by simp only [PyData.depth]; omega) hb), ?_⟩
      unfold unD
      simp only [PyData.depth, PyData.shown]
      exact ReprK.tuple h1 h2 h3 hna hk
  | .dict kvs, _, _, o, h, r, _ => by
    have e := isE0_eq (by unfold okH at o; exact o)
    subst e
    obtain ⟨a, od, rfl, ha⟩ := dp_dct0 h
    cases r
    obtain ⟨bs, h1, h2, h3⟩ := dq_dict (prog := prog) (w := w) I ha
    exact ⟨_, bs, h1, h2, h3⟩
theorem dqA (I : Inv X pins σ H s) : ∀ (ds : List D) (vs : List V) (us : List Value), okHA ds = true → DpAll X.K H vs ds → Vals vs us → (∀ t ∈ PyData.shownAll (unA ds), t.length ≤ sizeLine) →
    ∃ as bs, ReadsAll s.heap us (unA ds) as ∧ ReadAtMost s.heap (PyData.depthAll (unA ds)) bs ∧ ReprAllK prog w bs s.heap (PyData.depthAll (unA ds)) us (PyData.shownAll (unA ds))
  | [], _, _, _, h, r, _ => by
    cases h
    cases r
    exact ⟨_, [], .nil, (fun _ h => nomatch h), by simp only [unA, PyData.shownAll]; exact .nil⟩
  | d :: ds, _, _, o, h, r, hz => by
    cases h with
    | cons ha hb =>
      cases r with
      | cons ra rb =>
        have o : okH d = true ∧ okHA ds = true := by
          have o : (okH d && okHA ds) = true := o
          rw [Bool.and_eq_true] at o
          exact o
        obtain ⟨as1, b1, r1, hb1, k1⟩ := dq I d _ _ o.1 ha ra (hz _ (by simp only [unA, PyData.shownAll]; exact List.mem_cons_self ..))
        obtain ⟨as2, b2, r2, hb2, k2⟩ := dqA I ds _ _ o.2 hb rb (fun t ht => hz t (by simp only [unA, PyData.shownAll]; exact List.mem_cons_of_mem _ ht))
        refine ⟨_, b1 ++ b2, .cons r1 r2, ?_, ?_⟩
        · intro b hm
          simp only [unA, PyData.depthAll]
          rcases List.mem_append.mp hm with hm | hm
          · obtain ⟨d', as', r', hd'⟩ := hb1 b hm
            exact ⟨d', as', r', Nat.le_trans hd' (Nat.le_max_left _ _)⟩
          · obtain ⟨d', as', r', hd'⟩ := hb2 b hm
            exact ⟨d', as', r', Nat.le_trans hd' (Nat.le_max_right _ _)⟩
        · simp only [unA, PyData.depthAll, PyData.shownAll]
          exact .cons ((k1.more fun b hb => List.mem_append_left _ hb).level_le (Nat.le_max_left _ _)) (k2.more_le (fun b hb => List.mem_append_right _ hb) (Nat.le_max_right _ _))
end
/-- a row is shown -/
theorem sh_row (I : Inv X pins σ H s) {d : D} {a : Addr} (sq : isSq d = true) (o : okH d = true) (h : Dp X.K H (.ref a) d) (hz : (unD d).shown.length ≤ sizeLine) : ∃ T idr, ShowsBy prog w s.heap a (unD d) T idr := by
  cases d with
  | list ds =>
    cases h with
    | lst hs ha =>
      obtain ⟨its, rv, ⟨ob, n, h1, h2, _, h3⟩, _⟩ := I.list (SqL.of hs)
      have hz' : (listText (PyData.shownAll (unA ds))).length ≤ sizeLine := by unfold unD at hz; simpa only [PyData.shown] using hz
      obtain ⟨as, bs, h4, hb, hk⟩ := dqA (prog := prog) (w := w) I ds _ its (by unfold okH at o; exact o) ha rv (fun t ht => Nat.le_trans (listText_mem_le ht) hz')
      have r : Reads s.heap (.ref a) (.list (unA ds)) _ := .list h1 h2 h3 h4
      have hna : a ∉ bs := not_mem_of_deeper r (by simp only [PyData.depth]; omega) hb
      refine ⟨"list", "list.__repr__", PySem.F.slot_list_repr.toG, PySem.F.slot_list_str, PySem.F.slot_list_format, fun s hk0 => ⟨ob, hk0 _ _ h1, h2⟩, fun A E s Q hg hu hk0 hQ => ?_⟩
      unfold unD at hu hQ
      simp only [PyData.depth] at hu
      simp only [PyData.shown] at hQ
      cases its with
      | nil =>
        cases rv
        cases ha
        simp only [unA, PyData.shownAll, listText_nil] at hQ
        exact call_list_repr_empty ⟨ob, hk0 _ _ h1, h2⟩ (hk0 _ _ h1) h3 (hQ s.heap _ _ fun _ _ e => e)
      | cons x l => exact call_list_reprK h1 h2 h3 hna (by simpa using hk.length_eq) (fun i y e => hk.item i y (by simpa using e)) hg (fun b _ => Clear.nil b) hu hk0 hQ hz'
  | tuple ds =>
    cases h with
    | tup hs ha =>
      obtain ⟨its, rv, ⟨ob, h1, h2, n, h3⟩, _⟩ := I.tuple (SqT.of hs)
      have hz' : (tupleText (PyData.shownAll (unA ds))).length ≤ sizeLine := by unfold unD at hz; simpa only [PyData.shown] using hz
      obtain ⟨as, bs, h4, hb, hk⟩ := dqA (prog := prog) (w := w) I ds _ its (by unfold okH at o; exact o) ha rv (fun t ht => Nat.le_trans (tupleText_mem_le ht) hz')
      have r : Reads s.heap (.ref a) (.tuple (unA ds)) _ := .tuple h1 h2 h3 h4
      have hna : a ∉ bs := not_mem_of_deeper r (by simp only [PyData.depth]; omega) hb
      refine ⟨"tuple", "tuple.__repr__", PySem.F.slot_tuple_repr, PySem.F.slot_tuple_str, PySem.F.slot_tuple_format, fun s hk0 => ⟨ob, hk0 _ _ h1, h2⟩, fun A E s Q hg hu hk0 hQ => ?_⟩
      unfold unD at hu hQ
      simp only [PyData.depth] at hu
      simp only [PyData.shown] at hQ
      exact call_tuple_reprK h1 h2 h3 hna hk hg (fun b _ => Clear.nil b) hu hk0 hQ hz'
  | _ => cases sq
end
def rShowH (K : PySem.W.Frag) : List V → Hp → VK → Prop := fun vs H Q => rShowG K vs H Q ∨ (∃ b : Bool, vs = [V.bl b] ∧ Q (.str (if b then "True" else "False")) H) ∨ ∃ (p : Addr) (d : D), vs = [V.ref p] ∧ Dp K H (.ref p) d ∧ isSq d = true ∧ okH d = true ∧ (unD d).depth ≤ 64 ∧ (unD d).shown.length ≤ sizeLine ∧ Q (.str (unD d).shown) H
section
variable {X : Cx} {C : Cf} {e : Expr} {ta : De} {pos : Pos} {k : Nat}
theorem call_showH (hg : X.A.guards = some []) (hu : X.A.units + 100 < cLine) : CallR X (.builtin "repr") (rShowH X.K) := by
  intro pins s σ H vs us Q I r h
  rcases h with h | ⟨b, rfl, q⟩ | ⟨p, d, rfl, hd, sq, o, dp, hz, q⟩
  · exact call_showG hg hu pins s σ H vs us Q I r h
  · obtain ⟨u, rfl, ru⟩ := r.one
    cases ru
    exact P.repr_of_bool ⟨.str _, H, I.tok _, ⟨_, rfl⟩, q⟩
  · rw [Vals.ref1 r]
    obtain ⟨T, idr, S⟩ := sh_row (prog := X.prog) (w := X.w) I sq o hd hz
    exact call_repr_slot (by omega) (S.typeIs s (fun _ _ z => z)) S.slotRepr (S.call X.A.in1 _ s _ hg (by show X.A.units + 1 + (unD d).depth < cLine; omega) (fun _ _ z => z) fun h' u tk hk => ⟨_, _, rfl, ⟨.str (unD d).shown, H, I.kept hk, ⟨_, rfl⟩, q⟩⟩)
theorem b_showH {K : PySem.W.Frag} : B1 K (rShowH K) fReprH := by
  intro G δ σ F H x d z Q hK k hx ez q
  subst hK
  have go : ∀ d : D, isSq d = true → okH d = true → (unD d).depth ≤ 64 → (unD d).shown.length ≤ sizeLine → Vw G.K F H x d → Res G δ σ F H (.fz (.str (unD d).shown)) Q → rShowH G.K [x] H Q := fun d sq o dp hz hx q => by
    have hd := hx.dp k.fh
    have : ∃ p, x = .ref p := by
      cases d with
      | list ds => obtain ⟨p, vs, rfl, _⟩ := hx.list k.fh; exact ⟨p, rfl⟩
      | tuple ds => obtain ⟨p, vs, rfl, _⟩ := hx.tup; exact ⟨p, rfl⟩
      | _ => cases sq
    obtain ⟨p, rfl⟩ := this
    exact .inr (.inr ⟨p, d, rfl, hd, sq, o, dp, hz, q.fz k (.str _)⟩)
  unfold fReprH at ez
  split at ez
  · rename_i ds
    obtain ⟨a, b⟩ := okO_some ez
    cases b
    rw [Bool.and_eq_true, Bool.and_eq_true, decide_eq_true_eq, decide_eq_true_eq] at a
    exact go (.list ds) rfl a.1.1 a.1.2 a.2 hx q
  · rename_i ds
    obtain ⟨a, b⟩ := okO_some ez
    cases b
    rw [Bool.and_eq_true, Bool.and_eq_true, decide_eq_true_eq, decide_eq_true_eq] at a
    exact go (.tuple ds) rfl a.1.1 a.1.2 a.2 hx q
  · cases ez
    cases hx.dp k.fh
    exact .inr (.inl ⟨_, rfl, q.fz k (.str _)⟩)
  · exact .inl (b_showG G δ σ F H x _ z Q rfl k hx ez q)
theorem pd_reprH {p : Pos} (hm : X.mg "repr" = none) (hg : X.A.guards = some []) (hr : Room k X.A) (ha : PE X e (up C ta)) (hK : C.K = X.K := by rfl) (hcall : ∀ (r : List V → Hp → VK → Prop) (te : TE), X.mg "repr" = none → CallR X (.builtin "repr") r → PE X e te → PE X (.Call (.Name "repr" p) [e] [] pos) (tCB r (tCons te tNil)) := by exact fun _ _ hm0 h1 h2 => pe_callB h1 (by rfl) hm0 (by decide +kernel) (pa_cons h2 pa_nil)) :
    PE X (.Call (.Name "repr" p) [e] [] pos) (up C (dUn fReprH ta)) := pe_weak (hcall _ _ hm (call_showH hg (by have := hr.un; omega)) ha) (by rw [← hK]; exact rf_b1 b_showH)
end
end DL

set_option Elab.async false
set_option linter.all false
set_option maxRecDepth 100000
set_option autoImplicit false
/-! xs[::-1] of a tuple -/
namespace DL
open PySem PySem.Spec PyProof.Rows L2 HT
section
variable {prog : Program} {w : World} {A : Around} {E : Value → Shared → Prop} {s : Shared}
theorem adjust_rev (n : Nat) : Builtin.Slice.sliceAdjust none none (-1) (n : Int) = ((n : Int) - 1, -1) := by
  unfold Builtin.Slice.sliceAdjust
  have h1 : ((-1 : Int) < 0) := by omega
  simp only [h1, if_true]
theorem places_rev (n : Nat) : Builtin.Slice.slicePlaces ((n : Int) - 1) (-1) (-1) = n := by
  unfold Builtin.Slice.slicePlaces
  have h1 : ¬ ((-1 : Int) > 0) := by omega
  simp only [h1, if_false]
  have h2 : (-(-1 : Int)) = 1 := by omega
  rw [h2, Int.ediv_one]
  split <;> omega
theorem sliceApplied_rev {sl : Addr} {vl vu vs : Value} {n : Nat} {Q : Int × Int × Nat → Shared → Prop} (hs : s.heap.IsSliceOf sl vl vu vs) (pl : IsPart vl none) (pu : IsPart vu none) (ps : IsPart vs (some (-1)))
    (h : Q ((n : Int) - 1, -1, n) s) : wpAny (model prog w) A (Builtin.Slice.sliceApplied (.ref sl) (pure (n : Int))) Q E s := by
  obtain ⟨os, hos, hcs, hds⟩ := id hs
  unfold Builtin.Slice.sliceApplied Builtin.Slice.sliceFields
  refine wpAny_bind (wpAny_bind (wpAny_field hos hds (x := vl) rfl (wpAny_bind (wpAny_field hos hds (x := vu) rfl (wpAny_bind (wpAny_field hos hds (x := vs) rfl (wpAny_pure ?_)))))))
  refine wpAny_bind (slicePart_ ps ?_)
  show wpAny _ _ (if ((-1 : Int) == 0) = true then _ else _) _ _ s
  rw [if_neg (by decide)]
  refine wpAny_bind (slicePart_ pl (wpAny_bind (slicePart_ pu (wpAny_bind (wpAny_pure ?_)))))
  show wpAny _ _ (match Builtin.Slice.sliceAdjust none none (-1) (n : Int) with | (lo, hi) => pure (lo, (-1 : Int), Builtin.Slice.slicePlaces lo hi (-1))) _ _ s
  rw [adjust_rev n]
  show wpAny _ _ (pure ((n : Int) - 1, (-1 : Int), Builtin.Slice.slicePlaces ((n : Int) - 1) (-1) (-1))) _ _ s
  rw [places_rev]
  exact wpAny_pure h
theorem pick_rev (xs : Array Value) : ((List.range xs.size).filterMap fun (k : Nat) => xs[(((xs.size : Nat) : Int) - 1 + (k : Int) * (-1)).toNat]?).toArray = xs.toList.reverse.toArray := by
  congr 1
  have e : (fun (k : Nat) => xs[(((xs.size : Nat) : Int) - 1 + (k : Int) * (-1)).toNat]?) = fun k : Nat => xs.toList[(((xs.toList.length : Nat) : Int) - 1 - (k : Int)).toNat]? := by
    funext k
    rw [show ((xs.size : Nat) : Int) - 1 + (k : Int) * (-1) = ((xs.toList.length : Nat) : Int) - 1 - (k : Int) by rw [Array.length_toList]; omega, Array.getElem?_toList]
  rw [e, show xs.size = xs.toList.length from Array.length_toList.symm]
  generalize xs.toList = l
  have z : ∀ m : Nat, m ≤ l.length → ((List.range m).filterMap fun (k : Nat) => l[(((l.length : Nat) : Int) - 1 - (k : Int)).toNat]?) = l.reverse.take m := fun m => by
    induction m with
    | zero => intro _; rfl
    | succ m ih =>
      intro h
      rw [List.range_succ, List.filterMap_append, ih (by omega)]
      have h1 : (((l.length : Nat) : Int) - 1 - (m : Int)).toNat = l.length - 1 - m := by omega
      have h2 : l.length - 1 - m < l.length := by omega
      have h3 : m < l.reverse.length := by rw [List.length_reverse]; omega
      rw [List.take_succ, List.getElem?_eq_getElem h3, List.getElem_reverse]
      simp only [List.filterMap_cons, List.filterMap_nil, h1, List.getElem?_eq_getElem h2]
      rfl
  rw [z l.length (Nat.le_refl _), ← List.length_reverse, List.take_length]
theorem getItem_tuple_rev {t sl : Addr} {items : Array Value} {vl vu vs : Value} {Q : Value → Shared → Prop} (ht : IsTup s.heap t items) (hs : s.heap.IsSliceOf sl vl vu vs) (pl : IsPart vl none) (pu : IsPart vu none) (ps : IsPart vs (some (-1)))
    (h : Q (.ref s.heap.objs.size) { s with heap := s.heap.push { cls := .type "tuple", data := .seq items.toList.reverse.toArray } })
    (hsz : items.size ≤ sizeLine) : wpAny (model prog w) A (getItem (.ref t) (.ref sl)) Q E s := by
  have htake : sizeOk (.seq items.toList.reverse.toArray) := by
    show items.toList.reverse.toArray.size ≤ sizeLine
    rw [List.size_toArray, List.length_reverse, Array.length_toList]
    exact hsz
  obtain ⟨os, hos, hcs, hds⟩ := id hs
  have hTs : s.TypeIs (.ref sl) "slice" := ⟨os, hos, hcs⟩
  unfold getItem
  try with_reducible refine wpAny_holding ?_
  first | refine wpAny_bind (wpAny_pure ?_) | skip
  refine wpAny_bind (wpAny_sequenceKey ht.typeIs (by decide) ?_)
  refine wpAny_bind (wpAny_callSpecial?_slot (name := Str.ofString "__getitem__") ht.typeIs PyProof.Rows.slot_tuple_getitem
    (wpAny_call_entry PyProof.Rows.slot_tuple_getitem ht.typeIs entry_tuple_getitem ?_ (args_tuple_getitem _ _)))
  show wpAny _ _ (Builtin.Tuple.tupleItemsOf (.ref t) >>= _) _ _ s
  refine wpAny_bind (tupleItemsOf_ ht ?_)
  refine wpAny_bind (wpAny_typeOf hTs ?_)
  rw [if_pos (by decide)]
  refine wpAny_bind (sliceApplied_rev hs pl pu ps ?_)
  have hno : ¬ ((((items.size : Nat) : Int) - 1 == 0 && (-1 : Int) == 1 && items.size == items.size) = true) := by
    intro q
    rw [Bool.and_eq_true, Bool.and_eq_true] at q
    exact absurd (eq_of_beq q.1.2) (by decide)
  show wpAny _ _ (if (((items.size : Nat) : Int) - 1 == 0 && (-1 : Int) == 1 && items.size == items.size) = true then _ else _) _ _ s
  rw [if_neg hno, pick_rev]
  first
    | exact wpAny_bind (m := Builtin.Tuple.tupleExact _) (wpAny_newObj_type (wpAny_pure ⟨_, rfl, wpAny_pure h⟩) htake)
    | exact wpAny_bind (m := Builtin.Tuple.tupleExact _) (wpAny_newObj_type (wpAny_bind (wpAny_pure (wpAny_pure ⟨_, rfl, wpAny_pure h⟩))) htake)
    | exact wpAny_bind (wpAny_bind (m := Builtin.Tuple.tupleExact _) (wpAny_newObj_type (wpAny_pure (wpAny_pure ⟨_, rfl, wpAny_pure h⟩)) htake))
    | exact wpAny_bind (wpAny_bind (m := Builtin.Tuple.tupleExact _) (wpAny_newObj_type (wpAny_pure ⟨_, rfl, wpAny_pure h⟩) htake))
end
section
variable {X : Cx}
def tRevT (K : PySem.W.Frag) (te : TE) : TE := fun σ H Q => te σ H fun x H1 => ∃ a xs, x = .ref a ∧ SqT K H1 a xs ∧ ∀ p, H1 p = none → Q (.ref p) (upd H1 p (.tup xs.reverse))
theorem pe_revT {e : Expr} {te : TE} {k : Nat} {p1 p2 p3 pos : Pos} (he : PE X e te) : PE X (.Subscript e (.Slice none none (some (.UnaryOp .USub (.Constant (.int 1) k p1) p2)) p3) pos) (tRevT X.K te) := by
  refine ⟨fun pins s σ H Q I h => ?_⟩
  refine Subscript_ (thn (he.run pins s σ H _ I h) fun v s1 ⟨x, H1, I1, r1, q1⟩ => ?_)
  obtain ⟨a, xs, ex, hx, q⟩ := q1
  subst ex
  cases r1
  have hst : PO X (some (.UnaryOp .USub (.Constant (.int 1) k p1) p2)) (tPart (tUn (rU fun i => .int (-i)) (tC (.int 1)))) := po_some (pe_un un_neg pe_int)
  refine wpAny_Slice (thn (po_none.run pins s1 σ H1 (fun o H2 => o = none ∧ H2 = H1) I1 ⟨rfl, rfl⟩) fun vl s2 ⟨l, H2, I2, pl, el, e2⟩ => ?_)
  subst el e2
  refine thn (po_none.run pins s2 σ H2 (fun o H3 => o = none ∧ H3 = H2) I2 ⟨rfl, rfl⟩) fun vu s3 ⟨u, H3, I3, pu, eu, e3⟩ => ?_
  subst eu e3
  refine thn (hst.run pins s3 σ H3 (fun o H4 => o = some (-1) ∧ H4 = H3) I3 ⟨1, rfl, -1, rfl, rfl, rfl⟩) fun vs s4 ⟨o, H4, I4, ps, eo, e4⟩ => ?_
  subst eo e4
  have I5 : Inv X pins σ H4 { s4 with heap := s4.heap.push { cls := .type "slice", data := .fields #[vl, vu, vs] } } := I4.kept (t' := s4.toks) fun b ob q => Heap.get?_push_of_some _ q
  obtain ⟨its, r, ht, hz⟩ := I5.tuple hx
  have hlen := r.length
  show wpAny (model X.prog X.w) X.A (subscriptTail e (.Slice none none (some (.UnaryOp .USub (.Constant (.int 1) k p1) p2)) p3) (.ref a) (.ref s4.heap.objs.size)) (EP X pins σ Q) X.xe { s4 with heap := s4.heap.push { cls := .type "slice", data := .fields #[vl, vu, vs] } }
  refine tail_any (ops := [.ref a, .ref s4.heap.objs.size]) ht.typeIs (PyProof.Rows.slot_tuple_getitem.lookup) ?_ (by with_unfolding_all rfl)
  refine getItem_tuple_rev ht (Heap.IsSliceOf.new _ vl vu vs) pl pu ps ?_ (by rw [List.size_toArray]; omega)
  refine ⟨.ref _, _, I5.laid (t' := s4.toks) (o := .tup xs.reverse) (fun b ob q => Heap.get?_push_of_some _ q) (Nat.le_refl _) ?_, rfl, q _ (I5.hok.fresh (Nat.le_refl _))⟩
  exact ⟨by rw [List.length_reverse]; exact hz, _, r.reverse, IsTup.new _ _⟩
end
section
variable [Tabs] {X : Cx} {C : Cf} {e : Expr} {ta : De}
def fRevT : D → Option Vl
  | .tuple ds => some (.fz (.tuple ds.reverse))
  | _ => none
theorem pd_revT {k : Nat} {p1 p2 p3 pos : Pos} (he : PE X e (up C ta)) (hK : C.K = X.K := by rfl) : PE X (.Subscript e (.Slice none none (some (.UnaryOp .USub (.Constant (.int 1) k p1) p2)) p3) pos) (up C (dUn fRevT ta)) := pe_weak (pe_revT he) fun σ H Q ⟨G, δ, F, hC, k, h⟩ => by
  subst hC
  refine ⟨G, δ, F, rfl, k, finA_bind h fun x δ1 v F1 H1 k1 g1 w1 h1 => ?_⟩
  obtain ⟨F2, k2, g2, w2⟩ := k1.freeze w1
  obtain ⟨d, z, e1, e3, q⟩ := lift1_fin (finA_mono h1 g2)
  have hx := k2.view w2 e1
  cases d with
  | tuple ds =>
    obtain ⟨p, vs, rfl, h1, h2⟩ := hx.tup
    cases e3
    rw [← hK]
    exact ⟨_, _, rfl, SqT.of (k2.fh _ _ h1), (q H1).newT k2 (dpa_rev h2)⟩
  | _ => cases e3
end
end DL

set_option Elab.async false
set_option linter.all false
set_option maxRecDepth 100000
set_option autoImplicit false
/-! xs[c].replace(..) of written texts, text.index(sign) -/
namespace DL
open PySem PySem.Spec PyProof.Rows L2
section
variable {X : Cx} {a : Expr} {ta : TE} {y z : Str} {j k j0 : Nat} {c0 c1 c2 p2 apos pos : Pos} {c : Int}
/-- behind xs[c] a token is out -/
theorem pet_ixc {r : R2} (hr : IxR X r) (ha : PE X a ta) : ∀ (pins : List (Addr × Obj)) (s : Shared) (σ : L2.St) (H : Hp) (Q : VK), Inv X pins σ H s → tOp r ta (tC (.int c)) σ H Q →
    wpAny (model X.prog X.w) X.A (eval (.Subscript a (.Constant (.int c) j0 c2) p2) X.env) (fun u s' => 1 ≤ s'.toks ∧ EP X pins σ Q u s') X.xe s := by
  intro pins s σ H Q I h
  refine Subscript_ (thn (ha.run pins s σ H _ I h) fun v s1 ⟨x, H1, I1, r1, q1⟩ => ?_)
  refine wpAny_Constant_int ?_
  have w := hr a (.Constant (.int c) j0 c2) pins { s1 with toks := s1.toks + 1 } σ H1 x (.int c) v (.int c s1.toks) Q (I1.tok _) r1 ⟨_, rfl⟩ q1 rfl
  exact wpAny_mono (wpAny_toks_of (n := 1) (by show 1 ≤ s1.toks + 1; omega) w) (fun _ _ z => z) (fun _ _ z => z.2)
theorem pe_replIx {r : R2} (hr : IxR X r) (ha : PE X a ta) (hyz : (y == z) = false := by decide)
    (hst : starEach [.Constant (.str y) j c0, .Constant (.str z) k c1] X.env = [(false, eval (.Constant (.str y) j c0) X.env), (false, eval (.Constant (.str z) k c1) X.env)] := by rfl)
    (hbase : attributeBase (.Subscript a (.Constant (.int c) j0 c2) p2) "replace" X.env (eval (.Subscript a (.Constant (.int c) j0 c2) p2) X.env) = eval (.Subscript a (.Constant (.int c) j0 c2) p2) X.env := by rfl) (hline : (apos.endLine == pos.line) = true := by rfl) :
    PE X (.Call (.Attribute (.Subscript a (.Constant (.int c) j0 c2) p2) "replace" apos) [.Constant (.str y) j c0, .Constant (.str z) k c1] [] pos) (CwR.tReplC (tOp r ta (tC (.int c))) y z) := by
  refine ⟨fun pins s σ H Q I h => ?_⟩
  refine PySem.Call_method2 hbase hst hline (wpAny_mono (pet_ixc hr ha pins s σ H _ I h) (fun v s1 q => ?_) fun _ _ z => z)
  obtain ⟨hk, v', H1, I1, r1, x, e1, hb, q⟩ := q
  subst e1
  obtain ⟨tx, e2⟩ := r1
  subst e2
  refine ⟨"str", _, PySem.F.plainAttrs_str, PySem.F.slot_str_replace, PySem.F.type_str_replace, typeIs_str _ _ _, (fun _ e => nomatch e), Calls.callWith_builtin rfl (Calls.evalArgs_plain (Calls.spliced_cons ?_))⟩
  refine Calls.Constant_str (Calls.spliced_cons (Calls.Constant_str (Calls.spliced_nil ?_)))
  exact PySem.SC.replace (by show s1.toks ≠ 0; omega) (by show s1.toks + 1 ≠ 0; omega) (by show s1.toks ≠ s1.toks + 1; omega) hyz hb fun t' k => ⟨.str (Txt.replace x y z), H1, I1.tok k, ⟨t', rfl⟩, q⟩
end
variable [Tabs]
section
variable {X : Cx} {C : Cf} {a e : Expr} {ta tb : De} {y z : Str} {j k j0 : Nat} {c0 c1 c2 p1 p2 p3 apos pos : Pos} {c : Int}
def fRepl (y z : Str) : D → Option Vl
  | .str x => okO (decide (x.length + (x.length + 1) * z.length ≤ 16777216)) (some (.fz (.str (Txt.replace x y z))))
  | _ => none
theorem bind_assoc {α β γ : Type} (r : R α) (f : α → DS → R β) (g : β → DS → R γ) : (r.bind f).bind g = r.bind fun x δ => (f x δ).bind g := by
  cases r <;> rfl
theorem repl_fin {G : Ct} {f : D → D → Option Vl} {g : D → Option Vl} {x y : Option D} {δ : DS} {σ : L2.St} {F : Hp} {Q : VK} (h : finA G (WV G σ) ((lift2 f x y δ).bind fun v δ1 => lift1 g (vw δ1 (fzT v)) δ1) σ F Q) :
    ∃ d e zz d2 w, x = some d ∧ y = some e ∧ f d e = some zz ∧ vw δ (fzT zz) = some d2 ∧ g d2 = some w ∧ ∀ H, Res G δ σ F H w Q := by
  cases x with
  | none => exact h.elim
  | some d =>
    cases y with
    | none => exact h.elim
    | some e =>
      cases ez : f d e with
      | none =>
        have h : finA G (WV G σ) ((ret (f d e) δ).bind fun v δ1 => lift1 g (vw δ1 (fzT v)) δ1) σ F Q := h
        rw [ez] at h
        exact h.elim
      | some zz =>
        have h : finA G (WV G σ) ((ret (f d e) δ).bind fun v δ1 => lift1 g (vw δ1 (fzT v)) δ1) σ F Q := h
        rw [ez] at h
        have h : finA G (WV G σ) (lift1 g (vw δ (fzT zz)) δ) σ F Q := h
        obtain ⟨d2, w, e1, e2, q⟩ := lift1_fin h
        exact ⟨d, e, zz, d2, w, rfl, rfl, ez, e1, e2, q⟩
theorem pd_replIx (ha : PE X a (up C ta)) (hK : C.K = X.K := by rfl) (hyz : (y == z) = false := by decide)
    (hcall : ∀ (te : TE), PE X a te → PE X (.Call (.Attribute (.Subscript a (.Constant (.int c) j0 c2) p2) "replace" apos) [.Constant (.str y) j c0, .Constant (.str z) k c1] [] pos) (CwR.tReplC (tOp (rIx X.K) te (tC (.int c))) y z) := by exact fun _ h => pe_replIx ix_seq h) :
    PE X (.Call (.Attribute (.Subscript a (.Constant (.int c) j0 c2) p2) "replace" apos) [.Constant (.str y) j c0, .Constant (.str z) k c1] [] pos) (up C (dUn (fRepl y z) (dBin fIx ta (dC (.int c))))) := pe_weak (hcall _ ha) fun σ H Q ⟨G, δ, F, hC, k, h⟩ => by
  subst hC
  have h : finA G (WV G σ) (((ta δ).bind fun x δ1 => ((dC (.int c) δ1).bind fun y δ2 => lift2 fIx (vw δ2 (fzT x)) (vw δ2 (fzT y)) δ2)).bind fun v δ1 => lift1 (fRepl y z) (vw δ1 (fzT v)) δ1) σ F Q := h
  rw [bind_assoc] at h
  refine ⟨G, δ, F, rfl, k, finA_bind h fun x δ1 v F1 H1 k1 g1 w1 h1 => ?_⟩
  obtain ⟨F2, k2, g2, w2⟩ := k1.freeze w1
  have h1 : finA G (WV G σ) ((lift2 fIx (vw δ1 (fzT x)) (some (.int c)) δ1).bind fun v δ1 => lift1 (fRepl y z) (vw δ1 (fzT v)) δ1) σ F1 Q := h1
  obtain ⟨d, e, zz, d2, w, e1, e2, e3, e4, e5, q⟩ := repl_fin h1
  cases e2
  have hd2 : ∃ t, d2 = .str t ∧ t.length + (t.length + 1) * z.length ≤ 16777216 ∧ w = .fz (.str (Txt.replace t y z)) := by
    unfold fRepl at e5
    cases d2 with
    | str t =>
      obtain ⟨b1, b2⟩ := okO_some e5
      cases b2
      exact ⟨t, rfl, of_decide_eq_true b1, rfl⟩
    | _ => cases e5
  obtain ⟨t, rfl, hb, rfl⟩ := hd2
  rw [← hK]
  refine o_ix G δ1 σ F2 H1 v (.int c) d (.int c) zz _ rfl k2 (k2.view w2 e1) (.inl (.int c)) e3 fun u F' H' s' g' w' => ?_
  obtain ⟨F'', k'', g'', w''⟩ := s'.freeze w'
  have ev := (k''.view w'' e4).str
  subst ev
  exact ⟨t, rfl, hb, q H' _ F'' H' k'' (((g2.trans g').trans g'')) (.str _)⟩
/-- the first place of a sign -/
def fIdxS (x : Str) : D → Option Vl
  | .str y => match Builtin.Str.occurrences x y 0 x.length 1 with
    | i :: _ => some (.fz (.int (i : Nat)))
    | [] => none
  | _ => none
def dSIdx (a b : De) : De := fun δ => (a δ).bind fun x δ1 => match x with
  | .fz (.str z) => (b δ1).bind fun y δ2 => lift1 (fIdxS z) (vw δ2 (fzT y)) δ2
  | _ => .bad
abbrev rIdxS : V → List V → Hp → VK → Prop := fun x xs H Q => ∃ a b i rest, x = .str a ∧ xs = [.str b] ∧ Builtin.Str.occurrences a b 0 a.length 1 = i :: rest ∧ Q (.int (i : Nat)) H
theorem pd_sidx (ha : PE X a (up C ta)) (hb : PE X e (up C tb))
    (hcall : ∀ (to te : TE), PE X a to → PE X e te → PE X (.Call (.Attribute a "index" p2) [e] [] p3) (tBM X.K "str" rIdxS to (tCons te tNil)) := by exact fun _ _ h1 h2 => pe_bm PySem.F.plainAttrs_str PySem.F.slot_str_index PySem.F.type_str_index mt_sindex h1 (pa_cons h2 pa_nil)) :
    PE X (.Call (.Attribute a "index" p2) [e] [] p3) (up C (dSIdx ta tb)) := pe_weak (hcall _ _ ha hb) fun σ H Q ⟨G, δ, F, hC, k, h⟩ => by
  subst hC
  refine ⟨G, δ, F, rfl, k, finA_bind h fun x δ1 v F1 H1 k1 g1 w1 h1 => ?_⟩
  cases x with
  | own _ => exact h1.elim
  | loc _ => exact h1.elim
  | fz d =>
    cases d with
    | str z =>
      cases w1
      refine ⟨rfl, G, δ1, F1, rfl, k1, finA_bind h1 fun y δ2 u F2 H2 k2 g2 w2 h2 => ?_⟩
      obtain ⟨F3, k3, g3, w3⟩ := k2.freeze w2
      obtain ⟨d, zz, e1, e2, q⟩ := lift1_fin (finA_mono h2 g3)
      have hx := k3.view w3 e1
      cases d with
      | str t =>
        have hu := hx.str
        subst hu
        have e2 : (match Builtin.Str.occurrences z t 0 z.length 1 with
          | i :: _ => some (Vl.fz (.int (i : Nat)))
          | [] => none) = some zz := e2
        cases ho : Builtin.Str.occurrences z t 0 z.length 1 with
        | nil => rw [ho] at e2; cases e2
        | cons i rest =>
          rw [ho] at e2
          cases e2
          exact ⟨z, t, i, rest, rfl, rfl, ho, q H2 _ F3 H2 k3 (Same.refl F3) (.int _)⟩
      | _ => cases e2
    | _ => exact h1.elim
end
section
variable {δ δ1 δ2 : DS} {a b : De} {y : Vl} {d : D} {z : Str} {w : Vl}
theorem r_sidx (ha : a δ = .ok (.fz (.str z)) δ1) (hb : b δ1 = .ok y δ2) (hy : vw δ2 (fzT y) = some d) (hf : fIdxS z d = some w) : dSIdx a b δ = .ok w δ2 := by
  unfold dSIdx
  simp only [ha, R.bind, hb, hy, lift1, hf, ret]
end
end DL

set_option Elab.async false
set_option linter.all false
set_option maxRecDepth 100000
set_option autoImplicit false
/-! chains of three, xs[::e] where e is 1 or -1, sorted tuples of whole numbers -/
namespace DL
open PySem PySem.Spec PyProof.Rows L2
section
variable {X : Cx} {a b c d : Expr} {ta tb tc td : TE} {pos : Pos}
def tChain3 (r r' r'' : R2) (ta tb tc td : TE) : TE := fun σ H Q => ta σ H fun x H1 => tb σ H1 fun y H2 => r x y H2 fun z H3 => ∃ k, z = .bl k ∧
  (if k = true then tc σ H3 fun u H4 => r' y u H4 fun z2 H5 => ∃ k2, z2 = .bl k2 ∧ (if k2 = true then td σ H5 fun w' H6 => r'' u w' H6 Q else Q (.bl false) H5) else Q (.bl false) H3)
theorem pe_chain3 {op op' op'' : CmpOp} {r r' r'' : R2} (ho : OpR X (compareOp op) r) (ho' : OpR X (compareOp op') r') (ho'' : OpR X (compareOp op'') r'') (ha : PE X a ta) (hb : PE X b tb) (hc : PE X c tc) (hd : PE X d td)
    (hm : lastMarks [op, op', op''] [b, c, d] = false := by with_unfolding_all rfl) : PE X (.Compare a [op, op', op''] [b, c, d] pos) (tChain3 r r' r'' ta tb tc td) := by
  refine ⟨fun pins s σ H Q I h => ?_⟩
  refine Compare_chain (thn (ha.run pins s σ H _ I h) fun v s1 ⟨x, H1, I1, r1, q1⟩ => chain_link (thn (hb.run pins s1 σ H1 _ I1 q1) fun u s2 ⟨y, H2, I2, r2, q2⟩ =>
    thn (ho pins s2 σ H2 x y v u _ I2 r1 r2 q2) fun dd s3 ⟨z, H3, I3, r3, k, e, q3⟩ => ?_)) hm
  subst e
  cases r3
  refine wpAny_truthy_bool ?_
  cases k with
  | false => exact ite_ff ⟨.bl false, H3, I3, rfl, q3⟩
  | true =>
    refine ite_tt (chain_link (thn (hc.run pins s3 σ H3 _ I3 q3) fun w' s4 ⟨z', H4, I4, r4, q4⟩ => thn (ho' pins s4 σ H4 y z' u w' _ I4 r2 r4 q4) fun dd s5 ⟨z2, H5, I5, r5, k2, e2, q5⟩ => ?_))
    subst e2
    cases r5
    refine wpAny_truthy_bool ?_
    cases k2 with
    | false => exact ite_ff ⟨.bl false, H5, I5, rfl, q5⟩
    | true => exact ite_tt (chain_last (thn (hd.run pins s5 σ H5 _ I5 q5) fun w2 s6 ⟨z3, H6, I6, r6, q6⟩ => ho'' pins s6 σ H6 z' z3 w' w2 Q I6 r4 r6 q6))
theorem pt_chain3 {op op' op'' : CmpOp} {r r' r'' : R2} (ho : OpR X (compareOp op) r) (ho' : OpR X (compareOp op') r') (ho'' : OpR X (compareOp op'') r'') (ha : PE X a ta) (hb : PE X b tb) (hc : PE X c tc) (hd : PE X d td)
    (hm : lastMarks [op, op', op''] [b, c, d] = false := by with_unfolding_all rfl) : PT X (.Compare a [op, op', op''] [b, c, d] pos) (tTest (tChain3 r r' r'' ta tb tc td)) := by
  refine ⟨fun pins s σ H Q I h => ?_⟩
  refine isTrue_chain (thn (ha.run pins s σ H _ I h) fun v s1 ⟨x, H1, I1, r1, q1⟩ => test_link (thn (hb.run pins s1 σ H1 _ I1 q1) fun u s2 ⟨y, H2, I2, r2, q2⟩ =>
    thn (ho pins s2 σ H2 x y v u _ I2 r1 r2 q2) fun dd s3 ⟨z, H3, I3, r3, k, e, q3⟩ => ?_)) hm
  subst e
  cases r3
  refine wpAny_truthy_bool ?_
  cases k with
  | false =>
    obtain ⟨k', e', q'⟩ := q3
    cases e'
    exact ite_ff ⟨H3, I3, q'⟩
  | true =>
    refine ite_tt (test_link (thn (hc.run pins s3 σ H3 _ I3 q3) fun w' s4 ⟨z', H4, I4, r4, q4⟩ => thn (ho' pins s4 σ H4 y z' u w' _ I4 r2 r4 q4) fun dd s5 ⟨z2, H5, I5, r5, k2, e2, q5⟩ => ?_))
    subst e2
    cases r5
    refine wpAny_truthy_bool ?_
    cases k2 with
    | false =>
      obtain ⟨k', e', q'⟩ := q5
      cases e'
      exact ite_ff ⟨H5, I5, q'⟩
    | true =>
      refine ite_tt (test_last (thn (hd.run pins s5 σ H5 _ I5 q5) fun w2 s6 ⟨z3, H6, I6, r6, q6⟩ => thn (ho'' pins s6 σ H6 z' z3 w' w2 _ I6 r4 r6 q6) fun d' s7 ⟨z4, H7, I7, r7, k4, e4, q7⟩ => ?_))
      subst e4
      cases r7
      exact wpAny_truthy_bool ⟨H7, I7, q7⟩
/-! ### xs[::e] -/
theorem pick_one (items : Array Value) : slicePick items none none (some 1) = items := by
  unfold slicePick
  have e : sliceBounds none none (some 1) items.size = (0, ((items.size : Nat) : Int), 1) := by
    unfold sliceBounds
    simp
  rw [e]
  have h := sliceRange_one 0 items.size
  have h : sliceRange ((0 : Nat) : Int) ((items.size : Nat) : Int) 1 = (List.range (items.size - 0)).map (0 + ·) := h
  show ((sliceRange 0 ((items.size : Nat) : Int) 1).filterMap (items[·]?)).toArray = items
  rw [show (0 : Int) = ((0 : Nat) : Int) from rfl, h, List.filterMap_map]
  have z : ∀ n, n ≤ items.size → (List.range n).filterMap ((fun x => items[x]?) ∘ (0 + ·)) = items.toList.take n := fun n => by
    induction n with
    | zero => intro _; simp
    | succ n ih =>
      intro hn
      rw [List.range_succ, List.filterMap_append, ih (by omega), List.take_succ]
      simp only [List.filterMap_cons, List.filterMap_nil, Function.comp, Nat.zero_add, Array.getElem?_toList]
      rw [Array.getElem?_eq_getElem (by omega)]
      rfl
  rw [Nat.sub_zero, z _ (Nat.le_refl _), show items.size = items.toList.length from Array.length_toList.symm, List.take_length]
def rStep (K : PySem.W.Frag) (x : V) (i : Int) (H : Hp) (Q : VK) : Prop := ∃ a xs, x = .ref a ∧ (i = 1 ∨ i = -1) ∧ SqL K H a xs ∧ ∀ p, H p = none → Q (.ref p) (upd H p (.lst (if i = 1 then xs else xs.reverse)))
def tStep (K : PySem.W.Frag) (te ts : TE) : TE := fun σ H Q => te σ H fun x H1 => ts σ H1 fun y H2 => ∃ i, y = .int i ∧ rStep K x i H2 Q
theorem pe_step {e st : Expr} {te ts : TE} {p3 pos : Pos} (he : PE X e te) (hs : PE X st ts) (hp : ∀ (o i : Value), subscripted (.Slice none none (some st) p3) false o i = operate [o, i] (getItem o i) := by intro _ _; with_unfolding_all rfl) : PE X (.Subscript e (.Slice none none (some st) p3) pos) (tStep X.K te ts) := by
  refine ⟨fun pins s σ H Q I h => ?_⟩
  refine Subscript_ (thn (he.run pins s σ H _ I h) fun v s1 ⟨x, H1, I1, r1, q1⟩ => ?_)
  refine wpAny_Slice (thn (po_none.run pins s1 σ H1 (fun o H2 => o = none ∧ H2 = H1) I1 ⟨rfl, rfl⟩) fun vl s2 ⟨l, H2, I2, pl, el, e2⟩ => ?_)
  subst el e2
  refine thn (po_none.run pins s2 σ H2 (fun o H3 => o = none ∧ H3 = H2) I2 ⟨rfl, rfl⟩) fun vu s3 ⟨u, H3, I3, pu, eu, e3⟩ => ?_
  subst eu e3
  have hst : PO X (some st) (tPart ts) := po_some hs
  refine thn (hst.run pins s3 σ H3 (fun o H4 => match o with
    | some i => rStep X.K x i H4 Q
    | none => False) I3 q1) fun vs s4 ⟨o, H4, I4, ps, eo⟩ => ?_
  cases o with
  | none => exact eo.elim
  | some i =>
    obtain ⟨a, xs, ex, hi, hx, q⟩ := eo
    subst ex
    cases r1
    have I5 : Inv X pins σ H4 { s4 with heap := s4.heap.push { cls := .type "slice", data := .fields #[vl, vu, vs] } } := I4.kept (t' := s4.toks) fun b ob q => Heap.get?_push_of_some _ q
    obtain ⟨its, r, ht, hz⟩ := I5.list hx
    have hlen := r.length
    show wpAny (model X.prog X.w) X.A (subscriptTail e (.Slice none none (some st) p3) (.ref a) (.ref s4.heap.objs.size)) (EP X pins σ Q) X.xe { s4 with heap := s4.heap.push { cls := .type "slice", data := .fields #[vl, vu, vs] } }
    refine tail_any (ops := [.ref a, .ref s4.heap.objs.size]) ht.isList.typeIs (PySem.slot_list_getitem.lookup) ?_ (hp _ _)
    refine wpAny_getItem_list_slice ht.isList (Heap.IsSliceOf.new _ vl vu vs) pl pu ps (by rcases hi with rfl | rfl <;> decide) ?_ (by rw [List.size_toArray]; omega)
    rcases hi with rfl | rfl
    · rw [pick_one]
      refine ⟨.ref _, _, I5.laid (t' := s4.toks) (o := .lst xs) (fun b ob q => Heap.get?_push_of_some _ q) (Nat.le_refl _) ?_, rfl, q _ (I5.hok.fresh (Nat.le_refl _))⟩
      exact ⟨hz, _, 0, r, Heap.get?_push_size _ rfl⟩
    · rw [PySem.W.krv_pick]
      refine ⟨.ref _, _, I5.laid (t' := s4.toks) (o := .lst xs.reverse) (fun b ob q => Heap.get?_push_of_some _ q) (Nat.le_refl _) ?_, rfl, q _ (I5.hok.fresh (Nat.le_refl _))⟩
      exact ⟨by rw [List.length_reverse]; exact hz, _, 0, r.reverse, Heap.get?_push_size _ rfl⟩
end
variable [Tabs]
section
variable {X : Cx} {C : Cf} {a b c d e st : Expr} {ta tb tc td : De} {pos : Pos}
def dChain3 (f g h : D → D → Option Vl) (a b c d : De) : De := fun δ => (a δ).bind fun x δ1 => (b δ1).bind fun y δ2 => (lift2 f (vw δ2 (fzT x)) (vw δ2 (fzT y)) δ2).bind fun z δ3 => (asB z δ3).bind fun t δ4 => match t with
  | true => (c δ4).bind fun u δ5 => (lift2 g (vw δ5 (fzT y)) (vw δ5 (fzT u)) δ5).bind fun z2 δ6 => (asB z2 δ6).bind fun t2 δ7 => match t2 with
    | true => (d δ7).bind fun w δ8 => lift2 h (vw δ8 (fzT u)) (vw δ8 (fzT w)) δ8
    | false => .ok (.fz (.bool false)) δ7
  | false => .ok (.fz (.bool false)) δ4
theorem rf_chain3 {r r' r'' : R2} {f g h : D → D → Option Vl} {a b c d : De} (o : Op2 C.K r f) (o' : Op2 C.K r' g) (o'' : Op2 C.K r'' h) : ∀ σ H Q, up C (dChain3 f g h a b c d) σ H Q → tChain3 r r' r'' (up C a) (up C b) (up C c) (up C d) σ H Q := fun σ H Q ⟨G, δ, F, hC, k, h⟩ => by
  subst hC
  refine ⟨G, δ, F, rfl, k, finA_bind h fun x δ1 v F1 H1 k1 g1 w1 h1 => ?_⟩
  obtain ⟨F2, k2, g2, w2⟩ := k1.freeze w1
  refine ⟨G, δ1, F2, rfl, k2, finA_bind (finA_mono h1 g2) fun y δ2 u F3 H3 k3 g3 w3 h3 => ?_⟩
  obtain ⟨F4, k4, g4, w4⟩ := k3.freeze w3
  have h4 := finA_bind2 (W := WV G σ) (finA_mono h3 g4)
  obtain ⟨d, e, z, e1, e2, e3, q⟩ := lift2_fin h4
  have w2' : VlOk G δ2 σ F4 H3 v (fzT x) := w2.keep (fzT_stays e1) (g3.trans g4)
  refine o G δ2 σ F4 H3 v u d e z _ rfl k4 (k4.view w2' e1) (k4.view w4 e2) e3 fun zv F5 H5 k5 g5 w5 => ?_
  obtain ⟨z', δ6, F6, k6, g6, w6, h6⟩ := q H3 zv F5 H5 k5 g5 w5
  have h7 := finA_bind2 (W := WB) h6
  obtain ⟨t, rfl, q7⟩ := asB_fin h7
  cases w6
  refine ⟨t, rfl, ?_⟩
  obtain ⟨t', δ8, F8, k8, g8, e8, h8⟩ := q7 F6 H5 k6 (Same.refl F6)
  have e8 : t = t' := e8
  subst e8
  cases t with
  | false => exact iteF (h8 (.bl false) F8 H5 k8 (Same.refl F8) (.bl false))
  | true =>
    refine iteT ⟨G, δ8, F8, rfl, k8, finA_bind h8 fun u' δ9 v9 F9 H9 k9 g9 w9 h9 => ?_⟩
    obtain ⟨F10, k10, g10, w10⟩ := k9.freeze w9
    have h10 := finA_bind2 (W := WV G σ) (finA_mono h9 g10)
    obtain ⟨d', e', z2, e1', e2', e3', q'⟩ := lift2_fin h10
    have w4' : VlOk G δ9 σ F10 H9 u (fzT y) := w4.keep (fzT_stays e1') ((g6.trans g8).trans (g9.trans g10))
    refine o' G δ9 σ F10 H9 u v9 d' e' z2 _ rfl k10 (k10.view w4' e1') (k10.view w10 e2') e3' fun zv F11 H11 k11 g11 w11 => ?_
    obtain ⟨z3, δ12, F12, k12, g12, w12, h12⟩ := q' H9 zv F11 H11 k11 g11 w11
    have h13 := finA_bind2 (W := WB) h12
    obtain ⟨t3, rfl, q13⟩ := asB_fin h13
    cases w12
    refine ⟨t3, rfl, ?_⟩
    obtain ⟨t4, δ14, F14, k14, g14, e14, h14⟩ := q13 F12 H11 k12 (Same.refl F12)
    have e14 : t3 = t4 := e14
    subst e14
    cases t3 with
    | false => exact iteF (h14 (.bl false) F14 H11 k14 (Same.refl F14) (.bl false))
    | true =>
      refine iteT ⟨G, δ14, F14, rfl, k14, finA_bind h14 fun u2 δ15 v15 F15 H15 k15 g15 w15 h15 => ?_⟩
      obtain ⟨F16, k16, g16, w16⟩ := k15.freeze w15
      obtain ⟨d2, e2, z4, e1x, e2x, e3x, qx⟩ := lift2_fin (finA_mono h15 g16)
      have w10' : VlOk G δ15 σ F16 H15 v9 (fzT u') := w10.keep (fzT_stays e1x) ((g12.trans g14).trans (g15.trans g16))
      exact o'' G δ15 σ F16 H15 v9 v15 d2 e2 z4 Q rfl k16 (k16.view w10' e1x) (k16.view w16 e2x) e3x (qx H15)
theorem pd_chain3 {op op' op'' : CmpOp} {r r' r'' : R2} {f g h : D → D → Option Vl} (ho : OpR X (compareOp op) r) (o : Op2 C.K r f) (ho' : OpR X (compareOp op') r') (o' : Op2 C.K r' g) (ho'' : OpR X (compareOp op'') r'') (o'' : Op2 C.K r'' h) (ha : PE X a (up C ta)) (hb : PE X b (up C tb)) (hc : PE X c (up C tc)) (hd : PE X d (up C td))
    (hp : ∀ (ta tb tc td : TE), PE X a ta → PE X b tb → PE X c tc → PE X d td → PE X (.Compare a [op, op', op''] [b, c, d] pos) (tChain3 r r' r'' ta tb tc td) := by exact fun _ _ _ _ h1 h2 h3 h4 => pe_chain3 (by assumption) (by assumption) (by assumption) h1 h2 h3 h4) : PE X (.Compare a [op, op', op''] [b, c, d] pos) (up C (dChain3 f g h ta tb tc td)) := pe_weak (hp _ _ _ _ ha hb hc hd) (rf_chain3 o o' o'')
theorem ptd_chain3 {op op' op'' : CmpOp} {r r' r'' : R2} {f g h : D → D → Option Vl} (ho : OpR X (compareOp op) r) (o : Op2 C.K r f) (ho' : OpR X (compareOp op') r') (o' : Op2 C.K r' g) (ho'' : OpR X (compareOp op'') r'') (o'' : Op2 C.K r'' h) (ha : PE X a (up C ta)) (hb : PE X b (up C tb)) (hc : PE X c (up C tc)) (hd : PE X d (up C td))
    (hp : ∀ (ta tb tc td : TE), PE X a ta → PE X b tb → PE X c tc → PE X d td → PT X (.Compare a [op, op', op''] [b, c, d] pos) (tTest (tChain3 r r' r'' ta tb tc td)) := by exact fun _ _ _ _ h1 h2 h3 h4 => pt_chain3 (by assumption) (by assumption) (by assumption) h1 h2 h3 h4) : PT X (.Compare a [op, op', op''] [b, c, d] pos) (upT C (dTest (dChain3 f g h ta tb tc td))) := pt_weak (hp _ _ _ _ ha hb hc hd) (rf_test (rf_chain3 o o' o''))
def fStep : D → D → Option Vl
  | .list ds, .int i => if i = 1 then some (.own (.lst ds)) else if i = -1 then some (.own (.lst ds.reverse)) else none
  | _, _ => none
theorem pd_step {p3 : Pos} (ha : PE X e (up C ta)) (hb : PE X st (up C tb)) (hK : C.K = X.K := by rfl)
    (hp : ∀ (o i : Value), subscripted (.Slice none none (some st) p3) false o i = operate [o, i] (getItem o i) := by intro _ _; with_unfolding_all rfl) : PE X (.Subscript e (.Slice none none (some st) p3) pos) (up C (dBin fStep ta tb)) := pe_weak (pe_step ha hb hp) fun σ H Q ⟨G, δ, F, hC, k, h⟩ => by
  subst hC
  refine ⟨G, δ, F, rfl, k, finA_bind h fun x δ1 v F1 H1 k1 g1 w1 h1 => ?_⟩
  obtain ⟨F2, k2, g2, w2⟩ := k1.freeze w1
  refine ⟨G, δ1, F2, rfl, k2, finA_bind (finA_mono h1 g2) fun y δ2 u F3 H3 k3 g3 w3 h3 => ?_⟩
  obtain ⟨F4, k4, g4, w4⟩ := k3.freeze w3
  obtain ⟨d, e, z, e1, e2, e3, q⟩ := lift2_fin (finA_mono h3 g4)
  have w2' : VlOk G δ2 σ F4 H3 v (fzT x) := w2.keep (fzT_stays e1) (g3.trans g4)
  have hx := k4.view w2' e1
  have hy := k4.view w4 e2
  cases d with
  | list ds =>
    cases e with
    | int i =>
      have hu := hy.int
      subst hu
      obtain ⟨p, vs, rfl, q1, q2⟩ := hx.list k4.fh
      have e3 : (if i = 1 then some (Vl.own (.lst ds)) else if i = -1 then some (.own (.lst ds.reverse)) else none) = some z := e3
      by_cases h1 : i = 1
      · rw [if_pos h1] at e3
        cases e3
        refine ⟨i, rfl, p, vs, rfl, .inl h1, by rw [← hK]; exact SqL.of q1, fun p' hp' => ?_⟩
        rw [if_pos h1]
        exact (q H3).newL k4 q2 p' hp'
      · rw [if_neg h1] at e3
        by_cases h2 : i = -1
        · rw [if_pos h2] at e3
          cases e3
          refine ⟨i, rfl, p, vs, rfl, .inr h2, by rw [← hK]; exact SqL.of q1, fun p' hp' => ?_⟩
          rw [if_neg h1]
          exact (q H3).newL k4 (dpa_rev q2) p' hp'
        · rw [if_neg h2] at e3
          cases e3
    | _ => cases e3
  | _ => cases e3
/-! ### sorted tuples of whole numbers -/
def isTI : D → Bool
  | .tuple (x :: r) => (x :: r).all isI
  | _ => false
def okSortT (ds : List D) : Bool := ds.all isTI && small ds.length
def fSortedT : D → Option Vl
  | .list ds => okO (okSortT ds) (some (.own (.lst (ds.mergeSort leD))))
  | _ => none
theorem all_ti {ds : List D} (h : ds.all isTI = true) : ∀ d ∈ ds, ∃ x r, d = .tuple (x :: r) ∧ ∀ y ∈ x :: r, ∃ i, y = .int i := fun d hd => by
  have := List.all_eq_true.mp h d hd
  unfold isTI at this
  split at this
  · rename_i x r
    exact ⟨x, r, rfl, all_i this⟩
  · cases this
theorem alike_ints : ∀ {xs ys : List D}, (∀ y ∈ xs, ∃ i, y = .int i) → (∀ y ∈ ys, ∃ i, y = .int i) → PySem.W.alikeAll xs ys = true
  | [], _, _, _ => by unfold PySem.W.alikeAll; rfl
  | x :: xs, [], _, _ => by unfold PySem.W.alikeAll; rfl
  | x :: xs, y :: ys, h, h' => by
    obtain ⟨i, rfl⟩ := h x List.mem_cons_self
    obtain ⟨j, rfl⟩ := h' y List.mem_cons_self
    unfold PySem.W.alikeAll
    rw [alike_ints (fun z hz => h z (List.mem_cons_of_mem _ hz)) (fun z hz => h' z (List.mem_cons_of_mem _ hz))]
    rfl
theorem lay_intsD : ∀ {xs : List D}, (∀ y ∈ xs, ∃ i, y = .int i) → PyData.canLayAll0 xs = true ∧ PyData.depthAll xs = 0
  | [], _ => ⟨rfl, rfl⟩
  | x :: xs, h => by
    obtain ⟨i, rfl⟩ := h x List.mem_cons_self
    obtain ⟨a, b⟩ := lay_intsD fun z hz => h z (List.mem_cons_of_mem _ hz)
    refine ⟨?_, ?_⟩
    · rw [PyData.canLayAll0, a]
      rfl
    · rw [PyData.depthAll, b]
      rfl
theorem sort_alikeT {ds : List D} (h : okSortT ds = true) : PySem.W.AllAlike ds ∧ PySem.W.Sortable ds ∧ ds.length ≤ sizeLine ∧ (∀ d ∈ ds, d.depth ≤ 1) ∧ PyData.canLayAll0 ds = true := by
  unfold okSortT at h
  rw [Bool.and_eq_true] at h
  obtain ⟨h, h2⟩ := h
  have g := all_ti h
  refine ⟨fun d hd d' hd' => ?_, .inl fun d hd => ?_, small_line h2, fun d hd => ?_, ?_⟩
  · obtain ⟨x, r, rfl, e⟩ := g d hd
    obtain ⟨x', r', rfl, e'⟩ := g d' hd'
    exact alike_ints e e'
  · obtain ⟨x, r, rfl, e⟩ := g d hd
    exact ⟨_, _, rfl⟩
  · obtain ⟨x, r, rfl, e⟩ := g d hd
    rw [PyData.depth, (lay_intsD e).2]
    exact Nat.le_refl _
  · clear h2 h
    induction ds with
    | nil => rfl
    | cons d ds ih =>
      obtain ⟨x, r, rfl, e⟩ := g d List.mem_cons_self
      have := ih fun d hd => g d (List.mem_cons_of_mem _ hd)
      show ((PyData.tuple (x :: r)).canLay0 && PyData.canLayAll0 ds) = true
      rw [this, show (PyData.tuple (x :: r)).canLay0 = PyData.canLayAll0 (x :: r) from rfl, (lay_intsD e).1]
      rfl
def rSortT (K : PySem.W.Frag) : List V → Hp → VK → Prop := fun vs H Q => ∃ (a : Addr) (F : Hp) (xs : List V) (ds : List D), vs = [V.ref a] ∧ Same F H ∧ SqL K H a xs ∧ DpAll K F xs ds ∧ okSortT ds = true ∧
  ∀ (ys : List V) (p : Addr), DpAll K F ys (ds.mergeSort leD) → H p = none → Q (.ref p) (upd H p (.lst ys))
theorem call_sortT (hu : X.A.units + 64 < cLine) : CallR X (.builtin "sorted") (rSortT X.K) := by
  intro pins s σ H vs us Q I r h
  obtain ⟨a, F, xs, ds, rfl, fh, hs, hd, hk, q⟩ := h
  obtain ⟨h1, h2, h3, h4, h5⟩ := sort_alikeT hk
  obtain ⟨its, rv, hl, _⟩ := I.list hs
  rw [Vals.ref1 r]
  obtain ⟨as, ra⟩ := L2.Dp.readsAll I ds _ _ (dpa_lib ds xs h5 (dpa_mono fh _ _ hd)) rv
  refine PySem.W.sorted_data (R := fun u d => ∃ x, RelV x u ∧ Dp X.K F x d) (enc := id) (bs := ds) hl.isList (each_of_vals hd rv) (each_of_reads ra) (by rw [List.map_id]; exact h1) (by rw [List.map_id]; exact h2) h3 (fun b hb => ?_) fun out ho he => ?_
  · have := h4 b hb
    show X.A.units + 2 + b.depth < cLine
    omega
  · obtain ⟨ep, he'⟩ := PyProof.Rows.sortedAll_at s.heap its out.toArray
    obtain ⟨ys, g1, g2⟩ := vals_of_each he
    have hlen : ys.length ≤ sizeLine := by rw [dpa_len g2, List.length_mergeSort]; exact h3
    exact ⟨.ref _, upd H (s.heap.objs.size + 1) (.lst ys), I.laid (t' := s.toks) (fun _ _ => PyProof.Rows.sortedAll_old) (Nat.le_succ _) ⟨hlen, out, ep, g1, he'⟩, rfl, q ys _ g2 (I.hok.fresh (Nat.le_succ _))⟩
theorem b_sortT {K : PySem.W.Frag} : B1 K (rSortT K) fSortedT := by
  intro G δ σ F H x d z Q hK k hx ez q
  subst hK
  cases d with
  | list ds =>
    obtain ⟨p, vs, rfl, h1, h2⟩ := hx.list k.fh
    obtain ⟨eo, ez⟩ := okO_some ez
    cases ez
    exact ⟨_, F, vs, ds, rfl, k.fh, SqL.of h1, h2, eo, fun ys p hy => q.newL k hy p⟩
  | _ => cases ez
theorem pd_sortT {p : Pos} (hm : X.mg "sorted" = none) (hu : X.A.units + 64 < cLine) (ha : PE X e (up C ta)) (hK : C.K = X.K := by rfl) (hcall : ∀ (r : List V → Hp → VK → Prop) (te : TE), X.mg "sorted" = none → CallR X (.builtin "sorted") r → PE X e te → PE X (.Call (.Name "sorted" p) [e] [] pos) (tCB r (tCons te tNil)) := by exact fun _ _ hm0 h1 h2 => pe_callB h1 (by rfl) hm0 (by decide +kernel) (pa_cons h2 pa_nil)) :
    PE X (.Call (.Name "sorted" p) [e] [] pos) (up C (dUn fSortedT ta)) := pe_weak (hcall _ _ hm (call_sortT hu) ha) (by rw [← hK]; exact rf_b1 b_sortT)
end
end DL

set_option Elab.async false
set_option linter.all false
set_option maxRecDepth 100000
set_option autoImplicit false
/-! n not in (n1, n2, ..) -/
namespace DL
open PySem PySem.Spec PyProof.Rows L2
variable [Tabs]
section
variable {X : Cx} {C : Cf} {a b : Expr} {ta tb : De} {pos : Pos}
def fNotInT : D → D → Option Vl
  | .int i, .tuple ds => match intsOf ds with
    | some ns => some (.fz (.bool (!inV (.int i) (ns.map V.int))))
    | none => none
  | _, _ => none
theorem o_notInT {K : PySem.W.Frag} : Op2 K (rIn K true) fNotInT := by
  intro G δ σ F H x y d e z Q hK k hx hy ez q
  subst hK
  cases d with
  | int i =>
    cases e with
    | tuple ds =>
      have hi := hx.int
      subst hi
      obtain ⟨p, vs, rfl, h1, h2⟩ := hy.tup
      have ez : (match intsOf ds with
        | some ns => some (Vl.fz (.bool (!inV (.int i) (ns.map V.int))))
        | none => none) = some z := ez
      cases en : intsOf ds with
      | none => rw [en] at ez; cases ez
      | some ns =>
        rw [en] at ez
        cases ez
        have e := intsOf_some en
        subst e
        rw [dpa_int_eq h2] at h1
        refine ⟨p, ns.map V.int, rfl, .inr (SqT.of (k.fh _ _ h1)), rfl, ?_, q.fz k (.bl _)⟩
        rw [List.all_map]
        exact List.all_eq_true.mpr fun _ _ => rfl
    | _ => cases ez
  | _ => cases ez
theorem pd_notinT (ha : PE X a (up C ta)) (hb : PE X b (up C tb)) (hK : C.K = X.K := by rfl) (hm : behindInMarks .NotIn b = false := by with_unfolding_all rfl) : PE X (.Compare a [.NotIn] [b] pos) (up C (dBin fNotInT ta tb)) := pe_weak (pe_cmpR op_notIn_seq ha hb hm) (rfK_bin (r := fun K => rIn K true) (fun _ => o_notInT) hK)
theorem ptd_notinT (ha : PE X a (up C ta)) (hb : PE X b (up C tb)) (hK : C.K = X.K := by rfl) (hm : behindInMarks .NotIn b = false := by with_unfolding_all rfl) : PT X (.Compare a [.NotIn] [b] pos) (upT C (dTest (dBin fNotInT ta tb))) := pt_weak (pt_cmpR op_notIn_seq ha hb hm) (rf_test (rfK_bin (r := fun K => rIn K true) (fun _ => o_notInT) hK))
end
section
variable {X : Cx} {C : Cf} {e : Expr} {ta : De} {pos : Pos}
/-- x = [.. for .. for ..] -/
theorem pds_setLc2 (i : Nat) {y : Str} {py spos : Pos} {elt tg iter tg1 iter1 : Expr} {ifs ifs1 : List Expr} {scope : Scope} {own : List (Str × Nat)} {vs1 ts ts1 : List Nat} {ti ti1 : Di} {g g1 : Dg} {tt tt1 : Dt} {te : De} (hi : PI X tg iter (upI C ti)) (hN : X.N.Nodup) (ok : BlkOk X.N X.env.scope scope own)
    (hg : ∀ (s : Shared) (H : Hp) (Ca : Addr) (cl : List (Str × Addr)) (fp : List Addr), PG (X.blk s H scope (compEnvC scope cl Ca X.env) fp) tg (upG (nox C) ts g)) (ht : ∀ (s : Shared) (H : Hp) (Ca : Addr) (cl : List (Str × Addr)) (fp : List Addr), PTs (X.blk s H scope (compEnvC scope cl Ca X.env) fp) ifs (upT (nox C) tt))
    (hi1 : ∀ (s : Shared) (H : Hp) (Ca : Addr) (cl : List (Str × Addr)) (fp : List Addr), PI (X.blk s H scope (compEnvC scope cl Ca X.env) fp) tg1 iter1 (upI (nox C) ti1))
    (hg1 : ∀ (s : Shared) (H : Hp) (Ca : Addr) (cl : List (Str × Addr)) (fp : List Addr), PG (X.blk s H scope (compEnvC scope cl Ca X.env) fp) tg1 (upG (nox C) ts1 g1)) (ht1 : ∀ (s : Shared) (H : Hp) (Ca : Addr) (cl : List (Str × Addr)) (fp : List Addr), PTs (X.blk s H scope (compEnvC scope cl Ca X.env) fp) ifs1 (upT (nox C) tt1))
    (he : ∀ (s : Shared) (H : Hp) (Ca : Addr) (cl : List (Str × Addr)) (fp : List Addr), PE (X.blk s H scope (compEnvC scope cl Ca X.env) fp) elt (up (nox C) te)) (hsw : swapsWith (.ListComp elt [⟨tg, iter, ifs, 0⟩, ⟨tg1, iter1, ifs1, 0⟩] scope pos) (some (.Name y py)) spos.line X.env = pure true) (hy : X.N[i]? = some y := by rfl) (hyl : X.env.scope.names.lookup y = some .local := by rfl)
    (hv : ∀ i ∈ vs1, i ∈ own.map (·.2) := by decide) (hts : ∀ t ∈ ts, t ∈ own.map (·.2) := by decide) (hts1 : ∀ t ∈ ts1, t ∈ vs1 := by decide) (hc : X.calm = true := by rfl)
    (hs : ∀ x, foldedSetIterable iter X.env x = pure x := by intro _; rfl) (hs1 : ∀ env x, foldedSetIterable iter1 env x = pure x := by intro _ _; rfl) :
    PS X (.Assign [.Name y py] (.ListComp elt [⟨tg, iter, ifs, 0⟩, ⟨tg1, iter1, ifs1, 0⟩] scope pos) spos) (ups C (dAsg i (dLc2 (own.map (·.2)) vs1 ti g tt ti1 g1 tt1 te))) := ps_weak (ps_setLc2 hc hN hy hyl hsw hi ok hv hg ht hi1 hg1 ht1 he hs hs1) (rf_asg (rf_lc2 hts hts1))
/-- all(xs) of a list of truths -/
def truthsOf : List D → Option (List Bool)
  | [] => some []
  | .bool b :: ds => (truthsOf ds).map (b :: ·)
  | _ => none
theorem truthsOf_some : ∀ {ds : List D} {bs : List Bool}, truthsOf ds = some bs → ds = bs.map PyData.bool
  | [], _, h => by cases h; rfl
  | d :: ds, bs, h => by
    cases d with
    | bool b =>
      have h : (truthsOf ds).map (b :: ·) = some bs := h
      cases e : truthsOf ds with
      | none => rw [e] at h; cases h
      | some cs =>
        rw [e] at h
        cases h
        rw [truthsOf_some e]
        rfl
    | _ => cases h
theorem truthsOf_map : ∀ bs : List Bool, truthsOf (bs.map PyData.bool) = some bs
  | [] => rfl
  | b :: bs => by
    show (truthsOf (bs.map PyData.bool)).map (b :: ·) = _
    rw [truthsOf_map bs]
    rfl
theorem dpa_bl_eq {K : PySem.W.Frag} {F : Hp} : ∀ {bs : List Bool} {vs : List V}, DpAll K F vs (bs.map PyData.bool) → vs = bs.map V.bl
  | [], _, h => by cases h; rfl
  | b :: bs, _, h => by
    cases h with
    | cons h t =>
      cases h
      rw [dpa_bl_eq t]
      rfl
def fAll : D → Option Vl
  | .list ds => (truthsOf ds).map fun bs => .fz (.bool (bs.all id))
  | _ => none
theorem b_all {K : PySem.W.Frag} : B1 K (rAll K) fAll := by
  intro G δ σ F H x d z Q hK k hx ez q
  subst hK
  cases d with
  | list ds =>
    obtain ⟨p, vs, rfl, h1, h2⟩ := hx.list k.fh
    have ez : (truthsOf ds).map (fun bs => Vl.fz (.bool (bs.all id))) = some z := ez
    cases e : truthsOf ds with
    | none => rw [e] at ez; cases ez
    | some bs =>
      rw [e] at ez
      cases ez
      have e2 := truthsOf_some e
      subst e2
      rw [dpa_bl_eq h2] at h1
      exact ⟨p, bs, rfl, SqL.of h1, q.fz k (.bl _)⟩
  | _ => cases ez
theorem pd_all {p : Pos} (hm : X.mg "all" = none) (ha : PE X e (up C ta)) (hc : X.calm = true := by rfl) (hK : C.K = X.K := by rfl) (hcall : ∀ (r : List V → Hp → VK → Prop) (te : TE), X.mg "all" = none → CallR X (.builtin "all") r → PE X e te → PE X (.Call (.Name "all" p) [e] [] pos) (tCB r (tCons te tNil)) := by exact fun _ _ hm0 h1 h2 => pe_callB h1 (by rfl) hm0 (by decide +kernel) (pa_cons h2 pa_nil)) :
    PE X (.Call (.Name "all" p) [e] [] pos) (up C (dUn fAll ta)) := pe_weak (hcall _ _ hm (cr_all hc) ha) (by rw [← hK]; exact rf_b1 b_all)
theorem f_all (bs : List Bool) : fAll (.list (bs.map PyData.bool)) = some (.fz (.bool (bs.all id))) := by
  show (truthsOf (bs.map PyData.bool)).map (fun bs => Vl.fz (.bool (bs.all id))) = _
  rw [truthsOf_map]
  rfl
end
end DL

set_option Elab.async false
set_option linter.all false
set_option maxRecDepth 100000
set_option autoImplicit false
/-! xs.remove(thing) of a list of data in which it stands; a return that is never come to -/
namespace DL
open PySem PySem.Spec PyProof.Rows L2
section
variable {X : Cx}
def rRemD (K : PySem.W.Frag) : V → List V → Hp → VK → Prop := fun x xs H Q => ∃ (l : Addr) (y : V) (vs : List V) (d : PyData) (ds as : List PyData) (j : Nat), x = .ref l ∧ xs = [y] ∧ H l = some (.lst vs) ∧ L2.DpAll K H vs ds ∧ L2.Dp K H y d ∧ SeqAt.shaped d = true ∧ SeqAt.shaped (.list ds) = true ∧ SeqAt.dataPlace ds d = some j ∧ Q .non (upd H l (.lst (vs.eraseIdx j)))
theorem mt_removeD (hu : X.A.units + 65 < cLine) : MtM X "list.remove" (rRemD X.K) := by
  intro pins s σ H x xs v us Q I rx rxs h
  obtain ⟨l, y, vs, d, ds, _, j, rfl, rfl, hH, hv, hy, sd, sl, hp, q⟩ := h
  cases rx
  obtain ⟨uy, rfl, ry⟩ := rxs.one
  obtain ⟨z, its, n, r, hl, e⟩ := I.lstM hH
  obtain ⟨bs, r1⟩ := L2.Dp.reads I d y uy hy ry
  obtain ⟨as, r2⟩ := L2.Dp.readsAll I ds _ _ hv r
  have c1 : PyData.canLayAll0 ds = true := SeqAt.canLay_of_shaped sl
  have c2 := SeqAt.canLay_of_shaped sd
  have hroom : X.A.units + 1 + min (PyData.depthAll ds) d.depth < cLine := room_in_shaped sd hu
  have hsz : its.toArray.size ≤ sizeLine := by rw [List.size_toArray]; omega
  refine SeqAt.remove_list_data (vs := its.toArray) (xs := ds) ⟨_, e, rfl, n, rfl⟩ (show ReadsAll s.heap its.toArray.toList ds as from r2) r1 (PyData.plainAll_of_canLay0 ds c1) (PyData.plain_of_canLay0 d c2) hroom hp hsz ?_
  have rr := r.eraseIdx j
  refine ⟨.non, _, I.lset (its' := its.eraseIdx j) (t' := s.toks) hH e ?_ rr ?_, rfl, q⟩
  · show its.toArray.eraseIdxIfInBounds j = (its.eraseIdx j).toArray
    rw [List.eraseIdxIfInBounds_toArray]
  · have := List.length_eraseIdx_le vs j
    omega
end
variable [Tabs]
section
variable {X : Cx} {C : Cf} {e : Expr} {ta : De} {pos : Pos}
def fRem (d : D) (ds : List D) : Option (List D) := okO (SeqAt.shaped d && SeqAt.shaped (.list ds)) ((SeqAt.dataPlace ds d).map ds.eraseIdx)
def dRem (i : Nat) (a : De) : Ds := fun δ => okIf (isLst i δ) ((a δ).bind fun x δ1 => (kp x δ1).bind fun d δ2 => mutL i (fRem d) δ2)
theorem pds_rem (hu : X.A.units + 65 < cLine) (i : Nat) {x : Str} {p1 p2 p3 : Pos} (ha : PE X e (up C ta)) (hN : X.N[i]? = some x := by rfl) (hv : Vis X.env.scope x := by first | exact Or.inl rfl | exact Or.inr (Or.inl rfl) | exact Or.inr (Or.inr rfl)) (hd : (x == ("__debug__" : Str)) = false := by decide)
    (hcd : (x == ("__classdict__" : Str)) = false := by decide) (hK : C.K = X.K := by rfl) (hw : swapsWith (.Call (.Attribute (.Name x p1) "remove" p2) [e] [] p3) none pos.line X.env = pure false := by rfl)
    (hcall : X.A.units + 65 < cLine → ∀ (to te : TE), PE X (.Name x p1) to → PE X e te → PE X (.Call (.Attribute (.Name x p1) "remove" p2) [e] [] p3) (tBM X.K "list" (rRemD X.K) to (tCons te tNil)) := by exact fun hu0 _ _ h1 h2 => pe_bm PySem.F.plainAttrs_list PySem.F.slot_list_remove PySem.F.type_list_remove (mt_removeD hu0) h1 (pa_cons h2 pa_nil)) :
    PS X (.Expr (.Call (.Attribute (.Name x p1) "remove" p2) [e] [] p3) pos) (ups C (dRem i ta)) := by
  refine ps_weak (ps_expr (hcall hu _ _ (pe_var hN hv hd hcd) ha) hw) fun D σ H ⟨G, δ, F, hC, k, h⟩ => ?_
  subst hC
  obtain ⟨z, h⟩ := okIf_finS h
  obtain ⟨p, vs, e1, e2⟩ := isLst_held k z
  refine ⟨.ref p, e1, .inl ⟨rfl, vs, SqL.of e2⟩, G, δ, F, rfl, k, finS_bind h fun x δ1 v F1 H1 k1 g1 w1 h1 => ?_⟩
  obtain ⟨d, δ2, F2, k2, g2, w2, h2⟩ := kp_bindS k1 h1 w1
  obtain ⟨s, ds, l, q1, q2, q3, h3⟩ := mutL_fin h2
  obtain ⟨p', o, a1, a2, a3, vs', rfl, a4⟩ := k2.held q1 q2
  rw [e1] at a1
  cases a1
  obtain ⟨z1, z2⟩ := okO_some q3
  rw [Bool.and_eq_true] at z1
  cases e3 : SeqAt.dataPlace ds d with
  | none =>
    rw [e3] at z2
    cases z2
  | some j =>
    rw [e3] at z2
    cases z2
    refine ⟨p, v, vs', d, ds, [], j, rfl, rfl, a2, ?_, ?_, z1.1, z1.2, e3, h3 σ F2 _ (k2.change q1 q2 e1 ⟨_, rfl, dpa_erase j a4⟩) (Same.refl F2)⟩
    · rw [← hK]
      exact dpa_lib _ _ (SeqAt.canLay_of_shaped z1.2) (dpa_mono k2.fh _ _ a4)
    · rw [← hK]
      exact dp_lib _ _ (SeqAt.canLay_of_shaped z1.1) (dp_mono k2.fh _ _ w2)
/-- what is never come to -/
theorem pd_dead : PE X e (up C fun _ => .bad) := ⟨fun pins s σ H Q I h => by
  obtain ⟨G, δ, F, hC, k, h⟩ := h
  exact h.elim⟩
end
section
theorem s_rem {i : Nat} {a : De} {δ δ1 δ2 : DS} {x : Vl} {d : D} {r : R Out} (h1 : isLst i δ = true) (ha : a δ = .ok x δ1) (hk : kp x δ1 = .ok d δ2) (hm : mutL i (fRem d) δ2 = r) : dRem i a δ = r := by
  unfold dRem
  simp only [ha, R.bind, hk, h1, okIf]
  exact hm
theorem f_rem {d : D} {ds : List D} {j : Nat} (h1 : SeqAt.shaped d = true) (h2 : SeqAt.shaped (.list ds) = true) (h3 : idxD d ds = some j) : fRem d ds = some (ds.eraseIdx j) := by
  unfold fRem
  rw [h1, h2, show SeqAt.dataPlace ds d = some j from h3]
  rfl
end
end DL

set_option Elab.async false
set_option linter.all false
set_option maxRecDepth 100000
set_option autoImplicit false
/-! texts: isascii, isdigit, startswith, endswith, split, join, f"{n}x", int(text), x in ("a", "b") -/
namespace DL
open PySem PySem.Spec PyProof.Rows L2
variable [Tabs]
section
variable {X : Cx} {C : Cf} {a b e : Expr} {ta tb : De} {pos apos p2 : Pos}
/-! ### methods of a text without arguments, with a written one -/
abbrev rM0 (r : V → List V → Hp → VK → Prop) : List V → Hp → VK → Prop := fun xs H Q => match xs with
  | [x] => (∃ a, x = V.str a) ∧ r x [] H Q
  | _ => False
abbrev rM1c (c : Str) (r : V → List V → Hp → VK → Prop) : List V → Hp → VK → Prop := fun xs H Q => match xs with
  | [x] => (∃ a, x = V.str a) ∧ r x [.str c] H Q
  | _ => False
abbrev rMc (c : Str) (r : V → List V → Hp → VK → Prop) : List V → Hp → VK → Prop := fun xs H Q => match xs with
  | [x] => r (.str c) [x] H Q
  | _ => False
def fTxt (g : Str → Bool) : D → Option Vl
  | .str x => some (.fz (.bool (g x)))
  | _ => none
def fSplit (c : Str) : D → Option Vl
  | .str x => okO (decide (x.length + 2 ≤ 100000) && !(c.length == 0)) (some (.own (.lst ((Txt.split x c).map PyData.str))))
  | _ => none
def fJoin (c : Str) : D → Option Vl
  | .list ds => match strsOf ds with
    | some ys => okO (decide ((ys.map (·.length)).sum + ys.length * c.length ≤ 100000)) (some (.fz (.str (Txt.join c ys))))
    | none => none
  | _ => none
def fFmt (t : Str) : D → Option Vl
  | .int i => okO (decide (i.natAbs.log2 < 1900 ∧ (Str.ofString (toString i)).length + t.length ≤ 100000)) (some (.fz (.str (Str.ofString (toString i) ++ t))))
  | _ => none
def fIntS : D → Option Vl
  | .str x => match intText? x with
    | some n => okO (decide (x.length ≤ 640)) (some (.fz (.int n)))
    | none => none
  | _ => none
def fStrI : D → Option Vl
  | .int i => okO (decide (i.natAbs.log2 < 1900)) (some (.fz (.str (Str.ofString (toString i)))))
  | _ => none
def fInTS : D → D → Option Vl
  | .str x, .tuple ds => match strsOf ds with
    | some ys => some (.fz (.bool (inV (.str x) (ys.map V.str))))
    | none => none
  | _, _ => none
theorem b_txt {K : PySem.W.Frag} {g : Str → Bool} {c : Bool} : B1 K (rM0 fun x xs H Q => ∃ a, x = V.str a ∧ xs = [] ∧ True ∧ Q (V.bl (g a)) H) (fTxt g) := by
  intro G δ σ F H x d z Q hK k hx ez q
  cases d with
  | str s =>
    have hx := hx.str
    subst hx
    cases ez
    exact ⟨⟨s, rfl⟩, s, rfl, rfl, trivial, q.fz k (.bl _)⟩
  | _ => cases ez
theorem b_txt1 {K : PySem.W.Frag} {g : Str → Str → Bool} {c : Str} : B1 K (rM1c c fun x xs H Q => ∃ a b, x = V.str a ∧ xs = [V.str b] ∧ Q (V.bl (g a b)) H) (fTxt fun x => g x c) := by
  intro G δ σ F H x d z Q hK k hx ez q
  cases d with
  | str s =>
    have hx := hx.str
    subst hx
    cases ez
    exact ⟨⟨s, rfl⟩, s, c, rfl, rfl, q.fz k (.bl _)⟩
  | _ => cases ez
theorem dpa_strs {K : PySem.W.Frag} {F : Hp} : ∀ ys : List Str, DpAll K F (ys.map V.str) (ys.map PyData.str)
  | [] => .nil
  | y :: ys => .cons (.str _) (dpa_strs ys)
theorem b_split {K : PySem.W.Frag} {c : Str} : B1 K (rM1c c fun x xs H Q => ∃ a b, x = V.str a ∧ xs = [V.str b] ∧ (b.length == 0) = false ∧ a.length + 2 ≤ sizeLine ∧ rNewStrs (Txt.split a b) H Q) (fSplit c) := by
  intro G δ σ F H x d z Q hK k hx ez q
  cases d with
  | str s =>
    have hx := hx.str
    subst hx
    obtain ⟨e1, e2⟩ := okO_some ez
    cases e2
    rw [Bool.and_eq_true, decide_eq_true_eq, Bool.not_eq_true'] at e1
    refine ⟨⟨s, rfl⟩, s, c, rfl, rfl, e1.2, ?_, fun p hp => q.newL k (dpa_strs _) p hp⟩
    have : sizeLine = 16777216 := rfl
    omega
  | _ => cases ez
theorem b_join {K : PySem.W.Frag} {c : Str} : B1 K (rMc c fun x xs H Q => ∃ a p ys, x = V.str a ∧ xs = [V.ref p] ∧ (SqL K H p (List.map V.str ys) ∨ SqT K H p (List.map V.str ys)) ∧ (List.map (fun x => x.length) ys).sum + ys.length * a.length ≤ 16777216 ∧ Q (V.str (Txt.join a ys)) H) (fJoin c) := by
  intro G δ σ F H x d z Q hK k hx ez q
  subst hK
  cases d with
  | list ds =>
    obtain ⟨p, vs, rfl, h1, h2⟩ := hx.list k.fh
    have ez : (match strsOf ds with
      | some ys => okO (decide ((ys.map (·.length)).sum + ys.length * c.length ≤ 100000)) (some (Vl.fz (.str (Txt.join c ys))))
      | none => none) = some z := ez
    cases e : strsOf ds with
    | none => rw [e] at ez; cases ez
    | some ys =>
      rw [e] at ez
      obtain ⟨e1, e2⟩ := okO_some ez
      cases e2
      have e3 := strsOf_some e
      subst e3
      rw [dpa_str_eq h2] at h1
      have e1 := of_decide_eq_true e1
      exact ⟨c, p, ys, rfl, rfl, .inl (SqL.of h1), by omega, q.fz k (.str _)⟩
  | _ => cases ez
abbrev rJn (K : PySem.W.Frag) (c : Str) : List V → Hp → VK → Prop := rMc c fun x xs H Q => ∃ a p ys, x = V.str a ∧ xs = [V.ref p] ∧ (SqL K H p (List.map V.str ys) ∨ SqT K H p (List.map V.str ys)) ∧ (List.map (fun x => x.length) ys).sum + ys.length * a.length ≤ 16777216 ∧ Q (V.str (Txt.join a ys)) H
theorem b_join' {C : Cf} {K : PySem.W.Frag} {c : Str} (h : C.K = K) : B1 C.K (rJn K c) (fJoin c) := by
  subst h
  exact b_join
abbrev rFmt (t : Str) : List V → Hp → VK → Prop := fun xs H Q => match xs with
  | [x] => (∃ y, x = V.str y ∧ y.length ≤ sizeLine ∧ (∃ z, V.str y = .str z ∧ (Str.empty ++ z).length ≤ sizeLine ∧ ∃ w, V.str t = .str w ∧ ((Str.empty ++ z) ++ w).length ≤ sizeLine ∧ Q (.str ((Str.empty ++ z) ++ w)) H)) ∨ ∃ i, x = V.int i ∧ i.natAbs.log2 < 1920 ∧ (∃ z, V.str (Str.ofString (toString i)) = .str z ∧ (Str.empty ++ z).length ≤ sizeLine ∧ ∃ w, V.str t = .str w ∧ ((Str.empty ++ z) ++ w).length ≤ sizeLine ∧ Q (.str ((Str.empty ++ z) ++ w)) H)
  | _ => False
theorem len_cat (x y : Str) : (x ++ y).length = x.length + y.length := by
  show (x.cps ++ y.cps).size = _
  rw [Array.size_append]
  rfl
theorem empty_cat (x : Str) : Str.empty ++ x = x := by
  show Str.mk (Str.empty.cps ++ x.cps) = x
  cases x
  show Str.mk (#[] ++ _) = _
  rw [Array.empty_append]
theorem b_fmt {K : PySem.W.Frag} {t : Str} : B1 K (rFmt t) (fFmt t) := by
  intro G δ σ F H x d z Q hK k hx ez q
  cases d with
  | int i =>
    have hx := hx.int
    subst hx
    obtain ⟨e1, e2⟩ := okO_some ez
    cases e2
    have e1 := of_decide_eq_true e1
    have hs : sizeLine = 16777216 := rfl
    refine .inr ⟨i, rfl, by omega, _, rfl, ?_, t, rfl, ?_, ?_⟩
    · rw [empty_cat]
      omega
    · rw [empty_cat, len_cat]
      omega
    · rw [empty_cat]
      exact q.fz k (.str _)
  | _ => cases ez
theorem b_intS {K : PySem.W.Frag} : B1 K (fun xs H Q => ∃ a n, xs = [V.str a] ∧ intText? a = some n ∧ a.length ≤ 640 ∧ Q (V.int n) H) fIntS := by
  intro G δ σ F H x d z Q hK k hx ez q
  cases d with
  | str s =>
    have hx := hx.str
    subst hx
    have ez : (match intText? s with
      | some n => okO (decide (s.length ≤ 640)) (some (Vl.fz (.int n)))
      | none => none) = some z := ez
    cases e : intText? s with
    | none => rw [e] at ez; cases ez
    | some n =>
      rw [e] at ez
      obtain ⟨e1, e2⟩ := okO_some ez
      cases e2
      exact ⟨s, n, rfl, e, of_decide_eq_true e1, q.fz k (.int _)⟩
  | _ => cases ez
theorem b_strI {K : PySem.W.Frag} : B1 K (fun xs H Q => ∃ i, xs = [V.int i] ∧ i.natAbs.log2 < 1920 ∧ Q (V.str (Str.ofString (toString i))) H) fStrI := by
  intro G δ σ F H x d z Q hK k hx ez q
  cases d with
  | int i =>
    have hx := hx.int
    subst hx
    obtain ⟨e1, e2⟩ := okO_some ez
    cases e2
    have e1 := of_decide_eq_true e1
    exact ⟨i, rfl, by omega, q.fz k (.str _)⟩
  | _ => cases ez
theorem o_inTS {K : PySem.W.Frag} : Op2 K (rIn K false) fInTS := by
  intro G δ σ F H x y d e z Q hK k hx hy ez q
  subst hK
  cases d with
  | str s =>
    cases e with
    | tuple ds =>
      have hi := hx.str
      subst hi
      obtain ⟨p, vs, rfl, h1, h2⟩ := hy.tup
      have ez : (match strsOf ds with
        | some ys => some (Vl.fz (.bool (inV (.str s) (ys.map V.str))))
        | none => none) = some z := ez
      cases en : strsOf ds with
      | none => rw [en] at ez; cases ez
      | some ys =>
        rw [en] at ez
        cases ez
        have e := strsOf_some en
        subst e
        rw [dpa_str_eq h2] at h1
        refine ⟨p, ys.map V.str, rfl, .inr (SqT.of (k.fh _ _ h1)), rfl, ?_, q.fz k (.bl _)⟩
        rw [List.all_map]
        exact List.all_eq_true.mpr fun _ _ => rfl
    | _ => cases ez
  | _ => cases ez
theorem pd_ascii (ha : PE X e (up C ta)) (hcall : ∀ (to : TE), PE X e to → PE X (.Call (.Attribute e "isascii" apos) [] [] pos) (tM0 (fun x xs H Q => ∃ a, x = V.str a ∧ xs = [] ∧ True ∧ Q (V.bl (Txt.isascii a)) H) to) := by exact fun _ h => pe_m0 PySem.F.slot_str_isascii PySem.F.type_str_isascii mt_isascii h) :
    PE X (.Call (.Attribute e "isascii" apos) [] [] pos) (up C (dUn (fTxt Txt.isascii) ta)) := pe_weak (hcall _ ha) fun σ H Q h => rf_b1 (b_txt (c := true)) σ H Q h
theorem pd_digit (ha : PE X e (up C ta)) (hcall : ∀ (to : TE), PE X e to → PE X (.Call (.Attribute e "isdigit" apos) [] [] pos) (tM0 (fun x xs H Q => ∃ a, x = V.str a ∧ xs = [] ∧ True ∧ Q (V.bl (Txt.isdigit a)) H) to) := by exact fun _ h => pe_m0 PySem.F.slot_str_isdigit PySem.F.type_str_isdigit mt_isdigit h) :
    PE X (.Call (.Attribute e "isdigit" apos) [] [] pos) (up C (dUn (fTxt Txt.isdigit) ta)) := pe_weak (hcall _ ha) fun σ H Q h => rf_b1 (b_txt (c := true)) σ H Q h
section
variable {c : Str} {j : Nat}
theorem pd_starts (ha : PE X e (up C ta)) (hcall : ∀ (to te : TE), PE X e to → PE X (.Constant (.str c) j p2) te → PE X (.Call (.Attribute e "startswith" apos) [.Constant (.str c) j p2] [] pos) (tM1 (fun x xs H Q => ∃ a b, x = V.str a ∧ xs = [V.str b] ∧ Q (V.bl (Txt.startswith a b)) H) to te) := by exact fun _ _ h1 h2 => pe_m1 PySem.F.slot_str_startswith PySem.F.type_str_startswith mt_startswith h1 h2) :
    PE X (.Call (.Attribute e "startswith" apos) [.Constant (.str c) j p2] [] pos) (up C (dUn (fTxt fun x => Txt.startswith x c) ta)) := pe_weak (hcall _ _ ha pe_str) fun σ H Q h => rf_b1 (b_txt1 (c := c)) σ H Q h
theorem pd_ends (ha : PE X e (up C ta)) (hcall : ∀ (to te : TE), PE X e to → PE X (.Constant (.str c) j p2) te → PE X (.Call (.Attribute e "endswith" apos) [.Constant (.str c) j p2] [] pos) (tM1 (fun x xs H Q => ∃ a b, x = V.str a ∧ xs = [V.str b] ∧ Q (V.bl (Txt.endswith a b)) H) to te) := by exact fun _ _ h1 h2 => pe_m1 PySem.F.slot_str_endswith PySem.F.type_str_endswith mt_endswith h1 h2) :
    PE X (.Call (.Attribute e "endswith" apos) [.Constant (.str c) j p2] [] pos) (up C (dUn (fTxt fun x => Txt.endswith x c) ta)) := pe_weak (hcall _ _ ha pe_str) fun σ H Q h => rf_b1 (b_txt1 (c := c)) σ H Q h
theorem pd_split (ha : PE X e (up C ta)) (hcall : ∀ (to te : TE), PE X e to → PE X (.Constant (.str c) j p2) te → PE X (.Call (.Attribute e "split" apos) [.Constant (.str c) j p2] [] pos) (tM1 (fun x xs H Q => ∃ a b, x = V.str a ∧ xs = [V.str b] ∧ (b.length == 0) = false ∧ a.length + 2 ≤ sizeLine ∧ rNewStrs (Txt.split a b) H Q) to te) := by exact fun _ _ h1 h2 => pe_split h1 h2) :
    PE X (.Call (.Attribute e "split" apos) [.Constant (.str c) j p2] [] pos) (up C (dUn (fSplit c) ta)) := pe_weak (hcall _ _ ha pe_str) fun σ H Q h => rf_b1 (b_split (c := c)) σ H Q h
theorem pd_join (ha : PE X e (up C ta)) (hK : C.K = X.K := by rfl) (hcall : ∀ (to te : TE), PE X (.Constant (.str c) j p2) to → PE X e te → PE X (.Call (.Attribute (.Constant (.str c) j p2) "join" apos) [e] [] pos) (tM1 (fun x xs H Q => ∃ a p ys, x = V.str a ∧ xs = [V.ref p] ∧ (SqL X.K H p (List.map V.str ys) ∨ SqT X.K H p (List.map V.str ys)) ∧ (List.map (fun x => x.length) ys).sum + ys.length * a.length ≤ 16777216 ∧ Q (V.str (Txt.join a ys)) H) to te) := by exact fun _ _ h1 h2 => pe_join h1 h2) :
    PE X (.Call (.Attribute (.Constant (.str c) j p2) "join" apos) [e] [] pos) (up C (dUn (fJoin c) ta)) := pe_weak (hcall _ _ pe_str ha) fun σ H Q h => ⟨⟨c, rfl⟩, rf_b1 (r := rJn X.K c) (b_join' hK) σ H Q h⟩
theorem pd_fmt {p3 : Pos} (ha : PE X e (up C ta)) : PE X (.JoinedStr [.FormattedValue e (-1) none p3, .Constant (.str c) j p2] pos) (up C (dUn (fFmt c) ta)) := pe_weak (pe_joined (.cons (pe_fmt ha) (.cons pe_str .nil))) fun σ H Q h => rf_b1 (b_fmt (t := c)) σ H Q h
end
theorem pd_intS {p : Pos} (hm : X.mg "int" = none) (ha : PE X e (up C ta)) (hcall : ∀ (r : List V → Hp → VK → Prop) (te : TE), X.mg "int" = none → CallR X (.type "int") r → PE X e te → PE X (.Call (.Name "int" p) [e] [] pos) (tCB r (tCons te tNil)) := by exact fun _ _ hm0 h1 h2 => pe_callTy h1 (by rfl) hm0 (by decide +kernel) (pa_cons h2 pa_nil)) :
    PE X (.Call (.Name "int" p) [e] [] pos) (up C (dUn fIntS ta)) := pe_weak (hcall _ _ hm call_int_str ha) (rf_b1 b_intS)
theorem pd_strI {p : Pos} (hm : X.mg "str" = none) (ha : PE X e (up C ta)) (hcall : ∀ (r : List V → Hp → VK → Prop) (te : TE), X.mg "str" = none → CallR X (.type "str") r → PE X e te → PE X (.Call (.Name "str" p) [e] [] pos) (tCB r (tCons te tNil)) := by exact fun _ _ hm0 h1 h2 => pe_callTy h1 (by rfl) hm0 (by decide +kernel) (pa_cons h2 pa_nil)) :
    PE X (.Call (.Name "str" p) [e] [] pos) (up C (dUn fStrI ta)) := pe_weak (hcall _ _ hm call_str_int ha) (rf_b1 b_strI)
theorem pd_inTS (ha : PE X a (up C ta)) (hb : PE X b (up C tb)) (hK : C.K = X.K := by rfl) (hm : behindInMarks .In b = false := by with_unfolding_all rfl) : PE X (.Compare a [.In] [b] pos) (up C (dBin fInTS ta tb)) := pe_weak (pe_cmpR op_in_seq ha hb hm) (rfK_bin (r := fun K => rIn K false) (fun _ => o_inTS) hK)
theorem ptd_inTS (ha : PE X a (up C ta)) (hb : PE X b (up C tb)) (hK : C.K = X.K := by rfl) (hm : behindInMarks .In b = false := by with_unfolding_all rfl) : PT X (.Compare a [.In] [b] pos) (upT C (dTest (dBin fInTS ta tb))) := pt_weak (pt_cmpR op_in_seq ha hb hm) (rf_test (rfK_bin (r := fun K => rIn K false) (fun _ => o_inTS) hK))
end
end DL

set_option Elab.async false
set_option linter.all false
set_option maxRecDepth 100000
namespace Lk55
open PySem PySem.Spec PyProof.Rows L2 DL
section
variable [Tabs]
def topS (i : Nat) : Stmt := PySem.Challenge.pw_changeride_k55_rides_written.main.body.getD i (.Pass ⟨0, 0, 0, 0⟩)
structure Txt (K : PySem.W.Frag) (mg : Str → Option Value) : Prop where
  b_all : mg "all" = none
  b_bool : mg "bool" = none
  b_int : mg "int" = none
  b_isinstance : mg "isinstance" = none
  b_len : mg "len" = none
  b_list : mg "list" = none
  b_min : mg "min" = none
  b_range : mg "range" = none
  b_repr : mg "repr" = none
  b_str : mg "str" = none
  b_tuple : mg "tuple" = none
abbrev s_is_number : Stmt := topS 4
abbrev N_is_number : List Str := ["word"]
abbrev P_is_number : List Str := ["word"]
theorem sc_is_number : FnScope N_is_number P_is_number (defScope s_is_number) := ⟨rfl, rfl, rfl, by decide +kernel, rfl, by decide +kernel, by decide +kernel⟩
abbrev s_is_end_word : Stmt := topS 5
abbrev N_is_end_word : List Str := ["word"]
abbrev P_is_end_word : List Str := ["word"]
theorem sc_is_end_word : FnScope N_is_end_word P_is_end_word (defScope s_is_end_word) := ⟨rfl, rfl, rfl, by decide +kernel, rfl, by decide +kernel, by decide +kernel⟩
abbrev s_end_word : Stmt := topS 6
abbrev N_end_word : List Str := ["end", "number", "side"]
abbrev P_end_word : List Str := ["end"]
theorem sc_end_word : FnScope N_end_word P_end_word (defScope s_end_word) := ⟨rfl, rfl, rfl, by decide +kernel, rfl, by decide +kernel, by decide +kernel⟩
abbrev s_end_meant : Stmt := topS 7
abbrev N_end_meant : List Str := ["word"]
abbrev P_end_meant : List Str := ["word"]
theorem sc_end_meant : FnScope N_end_meant P_end_meant (defScope s_end_meant) := ⟨rfl, rfl, rfl, by decide +kernel, rfl, by decide +kernel, by decide +kernel⟩
abbrev s_ride_text : Stmt := topS 9
abbrev N_ride_text : List Str := ["ride", "end"]
abbrev P_ride_text : List Str := ["ride"]
theorem sc_ride_text : FnScope N_ride_text P_ride_text (defScope s_ride_text) := ⟨rfl, rfl, rfl, by decide +kernel, rfl, by decide +kernel, by decide +kernel⟩
abbrev s_read_ride : Stmt := topS 10
abbrev N_read_ride : List Str := ["text", "words", "word"]
abbrev P_read_ride : List Str := ["text"]
theorem sc_read_ride : FnScope N_read_ride P_read_ride (defScope s_read_ride) := ⟨rfl, rfl, rfl, by decide +kernel, rfl, by decide +kernel, by decide +kernel⟩
abbrev s__law_reel : Stmt := topS 12
abbrev N__law_reel : List Str := ["script", "stir", "cell", "great"]
abbrev P__law_reel : List Str := ["script"]
theorem sc__law_reel : FnScope N__law_reel P__law_reel (defScope s__law_reel) := ⟨rfl, rfl, rfl, by decide +kernel, rfl, by decide +kernel, by decide +kernel⟩
abbrev s__law_draw : Stmt := topS 13
abbrev N__law_draw : List Str := ["reel", "many", "rest", "told", "stir"]
abbrev P__law_draw : List Str := ["reel", "many"]
theorem sc__law_draw : FnScope N__law_draw P__law_draw (defScope s__law_draw) := ⟨rfl, rfl, rfl, by decide +kernel, rfl, by decide +kernel, by decide +kernel⟩
abbrev s__law_dressed : Stmt := topS 14
abbrev N__law_dressed : List Str := ["reel", "thing", "found", "one"]
abbrev P__law_dressed : List Str := ["reel", "thing"]
theorem sc__law_dressed : FnScope N__law_dressed P__law_dressed (defScope s__law_dressed) := ⟨rfl, rfl, rfl, by decide +kernel, rfl, by decide +kernel, by decide +kernel⟩
abbrev s__law_alike : Stmt := topS 16
abbrev N__law_alike : List Str := ["found", "due", "k"]
abbrev P__law_alike : List Str := ["found", "due"]
theorem sc__law_alike : FnScope N__law_alike P__law_alike (defScope s__law_alike) := ⟨rfl, rfl, rfl, by decide +kernel, rfl, by decide +kernel, by decide +kernel⟩
abbrev s_law : Stmt := topS 17
abbrev N_law : List Str := ["script", "reel", "k", "wide", "ends", "lap", "due", "handed", "stays", "found", "line", "side"]
abbrev P_law : List Str := ["script"]
theorem sc_law : FnScope N_law P_law (defScope s_law) := ⟨rfl, rfl, rfl, by decide +kernel, rfl, by decide +kernel, by decide +kernel⟩
def fnL : List He.DefD := [⟨("is_number", none), "is_number", "is_number", defArgs s_is_number, defBody s_is_number, defScope s_is_number, [], []⟩, ⟨("is_end_word", none), "is_end_word", "is_end_word", defArgs s_is_end_word, defBody s_is_end_word, defScope s_is_end_word, [], []⟩, ⟨("end_word", none), "end_word", "end_word", defArgs s_end_word, defBody s_end_word, defScope s_end_word, [], []⟩, ⟨("end_meant", none), "end_meant", "end_meant", defArgs s_end_meant, defBody s_end_meant, defScope s_end_meant, [], []⟩, ⟨("ride_text", none), "ride_text", "ride_text", defArgs s_ride_text, defBody s_ride_text, defScope s_ride_text, [], []⟩, ⟨("read_ride", none), "read_ride", "read_ride", defArgs s_read_ride, defBody s_read_ride, defScope s_read_ride, [], []⟩, ⟨("_law_reel", none), "_law_reel", "_law_reel", defArgs s__law_reel, defBody s__law_reel, defScope s__law_reel, [], []⟩, ⟨("_law_draw", none), "_law_draw", "_law_draw", defArgs s__law_draw, defBody s__law_draw, defScope s__law_draw, [], []⟩, ⟨("_law_dressed", none), "_law_dressed", "_law_dressed", defArgs s__law_dressed, defBody s__law_dressed, defScope s__law_dressed, [], []⟩, ⟨("_law_alike", none), "_law_alike", "_law_alike", defArgs s__law_alike, defBody s__law_alike, defScope s__law_alike, [], []⟩, ⟨("law", none), "law", "law", defArgs s_law, defBody s_law, defScope s_law, [], []⟩]
def faL : List He.Fa := [.glo "is_number", .glo "is_end_word", .glo "end_word", .glo "end_meant", .glo "ride_text", .glo "read_ride", .glo "_law_reel", .glo "_law_draw", .glo "_law_dressed", .glo "_law_alike", .glo "law", .free "all", .free "bool", .free "int", .free "isinstance", .free "len", .free "list", .free "min", .free "range", .free "repr", .free "str", .free "tuple"]
def tfL : List He.Defn := [("read_ride", none)]
def sd_is_number : Ds :=
  (dRet (dOrV (dBin fEq (dVar 0) (dC (.str ("0" : PySem.Str)))) (dAndV (dUn (fTxt Txt.isascii) (dVar 0)) (dAndV (dUn (fTxt Txt.isdigit) (dVar 0)) (dNotV (dUn (fTxt fun x => Txt.startswith x ("0" : PySem.Str)) (dVar 0)))))))
@[irreducible] def d_is_number (as : List Sl) : R Vl := noEx as (runDef 1 1 sd_is_number as)
theorem ne_is_number (as : List Sl) (c : Value) (δ : DS) : d_is_number as ≠ .ex c δ := by rw [d_is_number]; exact noEx_ne _ _ _ _
theorem ok_is_number {P : Program} {w : World} {K : PySem.W.Frag} {mg : Str → Option Value} {base : Heap} (T : Txt K mg) (D : Dfn K mg "is_number" s_is_number P_is_number)  : Cal P w K mg base 1 "is_number" P_is_number d_is_number := by
  rw [show d_is_number = (fun as => noEx as (runDef 1 1 sd_is_number as)) from by funext as; rw [d_is_number]]
  exact cal_of D fun f fd F => fn_n F sc_is_number fun cdv A outer s H E hr =>
    (pds_one (pds_ret (pd_or (pd_eq hr.units (pd_var 0) pd_str) (pd_one (pd_and (pd_ascii (pd_var 0)) (pd_and (pd_digit (pd_var 0)) (pd_one (pd_not (pd_starts (pd_var 0))))))))))
def sd_is_end_word : Ds :=
  (dRet (dAndV (dBin fInTS (dSl (dVar 0) (oSome (dUn fNeg (dC (.int 1)))) oNone) (dTup (dCons (dC (.str ("+" : PySem.Str))) (dCons (dC (.str ("-" : PySem.Str))) dNil)))) (dCall d_is_number (aVal (dSl (dVar 0) oNone (oSome (dUn fNeg (dC (.int 1))))) aNil))))
@[irreducible] def d_is_end_word (as : List Sl) : R Vl := noEx as (runDef 1 1 sd_is_end_word as)
theorem ne_is_end_word (as : List Sl) (c : Value) (δ : DS) : d_is_end_word as ≠ .ex c δ := by rw [d_is_end_word]; exact noEx_ne _ _ _ _
theorem ok_is_end_word {P : Program} {w : World} {K : PySem.W.Frag} {mg : Str → Option Value} {base : Heap} (T : Txt K mg) (D : Dfn K mg "is_end_word" s_is_end_word P_is_end_word) (c_is_number : Cal P w K mg base 1 "is_number" P_is_number d_is_number) : Cal P w K mg base 2 "is_end_word" P_is_end_word d_is_end_word := by
  rw [show d_is_end_word = (fun as => noEx as (runDef 1 1 sd_is_end_word as)) from by funext as; rw [d_is_end_word]]
  exact cal_of D fun f fd F => fn_n F sc_is_end_word fun cdv A outer s H E hr =>
    (pds_one (pds_ret (pd_and (pd_inTS (pd_sl (pd_var 0) (pod_some (pd_neg pd_int)) pod_none) (pd_tup (pad_cons pd_str (pad_cons pd_str pad_nil)))) (pd_one (pd_cal c_is_number (hr.mono (by decide)) (paa_val (pd_sl (pd_var 0) pod_none (pod_some (pd_neg pd_int))) paa_nil))))))
def sd_end_word : Ds :=
  (dSeq (dAsgG (gTupD 2 (gsCons (gN 1) (gsCons (gN 2) gsNil))) (dVar 0)) (dRet (dIf (dTest (dBin fEq (dVar 2) (dC (.int 0)))) (dUn (fFmt ("+" : PySem.Str)) (dVar 1)) (dUn (fFmt ("-" : PySem.Str)) (dVar 1)))))
@[irreducible] def d_end_word (as : List Sl) : R Vl := noEx as (runDef 1 3 sd_end_word as)
theorem ne_end_word (as : List Sl) (c : Value) (δ : DS) : d_end_word as ≠ .ex c δ := by rw [d_end_word]; exact noEx_ne _ _ _ _
theorem ok_end_word {P : Program} {w : World} {K : PySem.W.Frag} {mg : Str → Option Value} {base : Heap} (T : Txt K mg) (D : Dfn K mg "end_word" s_end_word P_end_word)  : Cal P w K mg base 1 "end_word" P_end_word d_end_word := by
  rw [show d_end_word = (fun as => noEx as (runDef 1 3 sd_end_word as)) from by funext as; rw [d_end_word]]
  exact cal_of D fun f fd F => fn_n F sc_end_word fun cdv A outer s H E hr =>
    (pds_cons (pds_asg (pd_var 0) (pdg_tup (pdgs_cons (pdg_name 1 sc_end_word.nd) (pdgs_cons (pdg_name 2 sc_end_word.nd) pdgs_nil)))) (pds_one (pds_ret (pd_if (ptd_eq hr.units (pd_var 2) pd_int) (pd_fmt (pd_var 1)) (pd_fmt (pd_var 1))))))
def sd_end_meant : Ds :=
  (dRet (dTup (dCons (dUn fIntS (dSl (dVar 0) oNone (oSome (dUn fNeg (dC (.int 1)))))) (dCons (dIf (dTest (dUn (fTxt fun x => Txt.endswith x ("+" : PySem.Str)) (dVar 0))) (dC (.int 0)) (dC (.int 1))) dNil))))
@[irreducible] def d_end_meant (as : List Sl) : R Vl := noEx as (runDef 1 1 sd_end_meant as)
theorem ne_end_meant (as : List Sl) (c : Value) (δ : DS) : d_end_meant as ≠ .ex c δ := by rw [d_end_meant]; exact noEx_ne _ _ _ _
theorem ok_end_meant {P : Program} {w : World} {K : PySem.W.Frag} {mg : Str → Option Value} {base : Heap} (T : Txt K mg) (D : Dfn K mg "end_meant" s_end_meant P_end_meant)  : Cal P w K mg base 1 "end_meant" P_end_meant d_end_meant := by
  rw [show d_end_meant = (fun as => noEx as (runDef 1 1 sd_end_meant as)) from by funext as; rw [d_end_meant]]
  exact cal_of D fun f fd F => fn_n F sc_end_meant fun cdv A outer s H E hr =>
    (pds_one (pds_ret (pd_tup (pad_cons (pd_intS T.b_int (pd_sl (pd_var 0) pod_none (pod_some (pd_neg pd_int)))) (pad_cons (pd_if (pdt_val (pd_ends (pd_var 0))) pd_int pd_int) pad_nil)))))
def sd_ride_text : Ds :=
  (dRet (dUn (fJoin (" " : PySem.Str)) (dLc [1] (dIter (dVar 0)) (gN 1) dYes (dCall d_end_word (aVal (dVar 1) aNil)))))
@[irreducible] def d_ride_text (as : List Sl) : R Vl := noEx as (runDef 1 2 sd_ride_text as)
theorem ne_ride_text (as : List Sl) (c : Value) (δ : DS) : d_ride_text as ≠ .ex c δ := by rw [d_ride_text]; exact noEx_ne _ _ _ _
theorem ok_ride_text {P : Program} {w : World} {K : PySem.W.Frag} {mg : Str → Option Value} {base : Heap} (T : Txt K mg) (D : Dfn K mg "ride_text" s_ride_text P_ride_text) (c_end_word : Cal P w K mg base 1 "end_word" P_end_word d_end_word) : Cal P w K mg base 2 "ride_text" P_ride_text d_ride_text := by
  rw [show d_ride_text = (fun as => noEx as (runDef 1 2 sd_ride_text as)) from by funext as; rw [d_ride_text]]
  exact cal_of D fun f fd F => fn_n F sc_ride_text fun cdv A outer s H E hr =>
    (pds_one (pds_ret (pd_join (pd_lc (own := [("end", 1)]) (pdi_seq (pd_var 0)) sc_ride_text.nd (blkOk_by (N := N_ride_text) (sc := defScope s_ride_text) (by decide +kernel)) (fun _ _ _ _ _ => (pdg_name 1 sc_ride_text.nd)) (fun _ _ _ _ _ => ptsd_nil) (fun _ _ _ _ _ => (pd_cal c_end_word (hr.mono (by decide)) (paa_val (pd_var 1) paa_nil)))))))
def sd_read_ride : Ds :=
  (dSeq (dIfS (dNot (dTest (dUn (fIsi "str") (dVar 0)))) dNever dSkip) (dSeq (dAsg 1 (dIf (dTest (dBin fEq (dVar 0) (dC (.str ("" : PySem.Str))))) (dLst dNil) (dUn (fSplit (" " : PySem.Str)) (dVar 0)))) (dSeq (dIfS (dNot (dTest (dAllG [2] (dIter (dVar 1)) (gN 2) (dCall d_is_end_word (aVal (dVar 2) aNil))))) dNever dSkip) (dRet (dLc [2] (dIter (dVar 1)) (gN 2) dYes (dCall d_end_meant (aVal (dVar 2) aNil)))))))
@[irreducible] def d_read_ride (as : List Sl) : R Vl := noEx as (runDef 1 3 sd_read_ride as)
theorem ne_read_ride (as : List Sl) (c : Value) (δ : DS) : d_read_ride as ≠ .ex c δ := by rw [d_read_ride]; exact noEx_ne _ _ _ _
theorem ok_read_ride {P : Program} {w : World} {K : PySem.W.Frag} {mg : Str → Option Value} {base : Heap} {c P0 : Addr} (T : Txt K mg) (D : DfnC K mg "read_ride" s_read_ride P_read_ride c) (hP : P0 ∈ Tabs.T) (TB : GxR.TabB base mg c P0) (c_is_end_word : Cal P w K mg base 2 "is_end_word" P_is_end_word d_is_end_word) (c_end_meant : Cal P w K mg base 1 "end_meant" P_end_meant d_end_meant) : Cal P w K mg base 4 "read_ride" P_read_ride d_read_ride := by
  rw [show d_read_ride = (fun as => noEx as (runDef 1 3 sd_read_ride as)) from by funext as; rw [d_read_ride]]
  exact cal_ofC D fun f fd F hc => fn_nc F hc sc_read_ride fun A outer s H E hr =>
    (pds_cons (pds_if (ptd_not (pdt_val (pd_isi T.b_isinstance T.b_str (pd_var 0)))) (pds_one pds_never) pds_nil) (pds_cons (pds_set 1 (pd_if (ptd_eq hr.units (pd_var 0) pd_str) (pd_lst pad_nil) (pd_split (pd_var 0))) sc_read_ride.nd) (pds_cons (pds_if (ptd_not (pdt_val (pd_allG (k := 2) (vs := [2]) (ts := [2]) (names := ["word"]) hP TB (hr.mono (by decide)) T.b_all rfl (gexS_by (sc := defScope s_read_ride) (by decide +kernel)) (hix_by (N := N_read_ride) (by decide +kernel)) (pdi_seq (pd_var 1)) (fun _ _ _ _ _ _ hr => (pdg_name 2 sc_read_ride.nd)) (fun _ _ _ _ _ _ hr => (pd_cal c_is_end_word (hr.mono (by decide)) (paa_val (pd_var 2) paa_nil)))))) (pds_one pds_never) pds_nil) (pds_one (pds_ret (pd_lc (own := [("word", 2)]) (pdi_seq (pd_var 1)) sc_read_ride.nd (blkOk_by (N := N_read_ride) (sc := defScope s_read_ride) (by decide +kernel)) (fun _ _ _ _ _ => (pdg_name 2 sc_read_ride.nd)) (fun _ _ _ _ _ => ptsd_nil) (fun _ _ _ _ _ => (pd_cal c_end_meant (hr.mono (by decide)) (paa_val (pd_var 2) paa_nil)))))))))
def sd__law_reel : Ds :=
  (dSeq (dAsg 1 (dBin fPow (dC (.int 3)) (dC (.int 60)))) (dSeq (dFor (dIter (dSl (dVar 0) oNone (oSome (dC (.int 63))))) (gN 2) (dAsg 1 (dBin fMod (dBin fAdd (dBin fAdd (dBin fMul (dVar 1) (dVar 1)) (dBin fMod (dVar 2) (dC (.int 1000000000000000003)))) (dC (.int 11))) (dBin fSub (dBin fMul (dBin fPow (dC (.int 2)) (dC (.int 64))) (dBin fPow (dC (.int 2)) (dC (.int 63)))) (dC (.int 1)))))) (dSeq (dAsg 3 (dLc [2] (dIter (dSl (dVar 0) oNone (oSome (dC (.int 63))))) (gN 2) (dTest (dBin fGe (dVar 2) (dBin fPow (dC (.int 10)) (dC (.int 18))))) (dBin fSub (dVar 2) (dBin fPow (dC (.int 10)) (dC (.int 18)))))) (dRet (dLst (dCons (dVar 3) (dCons (dBin fAdd (dLc [2] (dIter (dSl (dVar 0) oNone (oSome (dC (.int 63))))) (gN 2) dYes (dBin fMod (dVar 2) (dC (.int 1000003)))) (dLst (dCons (dC (.int 41)) dNil))) (dCons (dC (.int 0)) (dCons (dVar 1) dNil)))))))))
@[irreducible] def d__law_reel (as : List Sl) : R Vl := noEx as (runDef 1 4 sd__law_reel as)
theorem ne__law_reel (as : List Sl) (c : Value) (δ : DS) : d__law_reel as ≠ .ex c δ := by rw [d__law_reel]; exact noEx_ne _ _ _ _
theorem ok__law_reel {P : Program} {w : World} {K : PySem.W.Frag} {mg : Str → Option Value} {base : Heap} (T : Txt K mg) (D : Dfn K mg "_law_reel" s__law_reel P__law_reel)  : Cal P w K mg base 1 "_law_reel" P__law_reel d__law_reel := by
  rw [show d__law_reel = (fun as => noEx as (runDef 1 4 sd__law_reel as)) from by funext as; rw [d__law_reel]]
  exact cal_of D fun f fd F => fn_n F sc__law_reel fun cdv A outer s H E hr =>
    (pds_cons (pds_set 1 (pd_pow pd_int pd_int) sc__law_reel.nd) (pds_cons (pds_for PassesOwn.never (pdi_seq (pd_sl (pd_var 0) pod_none (pod_some pd_int))) (pdg_name 2 sc__law_reel.nd) (pds_one (pds_set 1 (pd_mod (pd_add (pd_add (pd_mul (pd_var 1) (pd_var 1)) (pd_mod (pd_var 2) pd_int)) pd_int) (pd_sub (pd_mul (pd_pow pd_int pd_int) (pd_pow pd_int pd_int)) pd_int)) sc__law_reel.nd))) (pds_cons (pds_setLc 3  (own := [("cell", 2)]) (pdi_seq (pd_sl (pd_var 0) pod_none (pod_some pd_int))) sc__law_reel.nd (blkOk_by (N := N__law_reel) (sc := defScope s__law_reel) (by decide +kernel)) (fun _ _ _ _ _ => (pdg_name 2 sc__law_reel.nd)) (fun _ _ _ _ _ => (ptsd_one (ptd_ge (pd_var 2) (pd_pow pd_int pd_int)))) (fun _ _ _ _ _ => (pd_sub (pd_var 2) (pd_pow pd_int pd_int))) (sw_true rfl rfl rfl (by decide +kernel))) (pds_one (pds_ret (pd_lst (pad_cons (pd_var 3) (pad_cons (pd_add (pd_lc (own := [("cell", 2)]) (pdi_seq (pd_sl (pd_var 0) pod_none (pod_some pd_int))) sc__law_reel.nd (blkOk_by (N := N__law_reel) (sc := defScope s__law_reel) (by decide +kernel)) (fun _ _ _ _ _ => (pdg_name 2 sc__law_reel.nd)) (fun _ _ _ _ _ => ptsd_nil) (fun _ _ _ _ _ => (pd_mod (pd_var 2) pd_int))) (pd_lst (pad_cons pd_int pad_nil))) (pad_cons pd_int (pad_cons (pd_var 1) pad_nil))))))))))
def sd__law_draw : Ds :=
  (dSeq (dIfS (dTest (dBin fNe (dBin fIx (dVar 0) (dC (.int 0))) (dLst dNil))) (dSeq (dAsg 2 (dBin fIx (dBin fIx (dVar 0) (dC (.int 0))) (dC (.int 0)))) (dSeq (dSetI 0 (dC (.int 0)) (dBin fAdd (dBin fMul (dLst (dCons (dBin fDiv (dVar 2) (dVar 1)) dNil)) (dUn fInt (dBin fGe (dVar 2) (dVar 1)))) (dSl (dBin fIx (dVar 0) (dC (.int 0))) (oSome (dC (.int 1))) oNone))) (dRet (dBin fMod (dVar 2) (dVar 1))))) dSkip) (dSeq (dSetI 0 (dC (.int 2)) (dBin fAdd (dBin fIx (dVar 0) (dC (.int 2))) (dC (.int 1)))) (dSeq (dAsg 3 (dBin fIx (dBin fIx (dVar 0) (dC (.int 1))) (dBin fMod (dBin fIx (dVar 0) (dC (.int 2))) (dUn fLen (dBin fIx (dVar 0) (dC (.int 1))))))) (dSeq (dAsg 4 (dBin fAdd (dBin fAdd (dBin fMul (dBin fIx (dVar 0) (dC (.int 3))) (dBin fIx (dVar 0) (dC (.int 3)))) (dBin fMul (dBin fAdd (dVar 3) (dC (.int 7))) (dC (.int 69621)))) (dBin fMul (dBin fIx (dVar 0) (dC (.int 2))) (dC (.int 1000003))))) (dSeq (dSetI 0 (dC (.int 3)) (dBin fMod (dVar 4) (dBin fSub (dBin fMul (dBin fPow (dC (.int 2)) (dC (.int 64))) (dBin fPow (dC (.int 2)) (dC (.int 63)))) (dC (.int 1))))) (dRet (dBin fMod (dBin fDiv (dBin fIx (dVar 0) (dC (.int 3))) (dBin fPow (dC (.int 2)) (dC (.int 40)))) (dVar 1))))))))
@[irreducible] def d__law_draw (as : List Sl) : R Vl := noEx as (runDef 2 5 sd__law_draw as)
theorem ne__law_draw (as : List Sl) (c : Value) (δ : DS) : d__law_draw as ≠ .ex c δ := by rw [d__law_draw]; exact noEx_ne _ _ _ _
theorem ok__law_draw {P : Program} {w : World} {K : PySem.W.Frag} {mg : Str → Option Value} {base : Heap} (T : Txt K mg) (D : Dfn K mg "_law_draw" s__law_draw P__law_draw)  : Cal P w K mg base 1 "_law_draw" P__law_draw d__law_draw := by
  rw [show d__law_draw = (fun as => noEx as (runDef 2 5 sd__law_draw as)) from by funext as; rw [d__law_draw]]
  exact cal_of D fun f fd F => fn_n F sc__law_draw fun cdv A outer s H E hr =>
    (pds_cons (pds_if (ptd_ne hr.units (pd_ix (pd_var 0) pd_int) (pd_lst pad_nil)) (pds_cons (pds_set 2 (pd_ix (pd_ix (pd_var 0) pd_int) pd_int) sc__law_draw.nd) (pds_cons (pds_setI 0 (pd_add (pd_mul (pd_lst (pad_cons (pd_div (pd_var 2) (pd_var 1)) pad_nil)) (pd_int1 T.b_int (pd_ge (pd_var 2) (pd_var 1)))) (pd_sl (pd_ix (pd_var 0) pd_int) (pod_some pd_int) pod_none)) pd_int) (pds_one (pds_ret (pd_mod (pd_var 2) (pd_var 1)))))) pds_nil) (pds_cons (pds_setI 0 (pd_add (pd_ix (pd_var 0) pd_int) pd_int) pd_int) (pds_cons (pds_set 3 (pd_ix (pd_ix (pd_var 0) pd_int) (pd_mod (pd_ix (pd_var 0) pd_int) (pd_len T.b_len (pd_ix (pd_var 0) pd_int)))) sc__law_draw.nd) (pds_cons (pds_set 4 (pd_add (pd_add (pd_mul (pd_ix (pd_var 0) pd_int) (pd_ix (pd_var 0) pd_int)) (pd_mul (pd_add (pd_var 3) pd_int) pd_int)) (pd_mul (pd_ix (pd_var 0) pd_int) pd_int)) sc__law_draw.nd) (pds_cons (pds_setI 0 (pd_mod (pd_var 4) (pd_sub (pd_mul (pd_pow pd_int pd_int) (pd_pow pd_int pd_int)) pd_int)) pd_int) (pds_one (pds_ret (pd_mod (pd_div (pd_ix (pd_var 0) pd_int) (pd_pow pd_int pd_int)) (pd_var 1)))))))))
def sd__law_dressed (me : List Sl → R Vl) : Ds :=
  (dSeq (dIfS (dTest (dUn (fIsi "tuple") (dVar 1))) (dSeq (dAsg 2 (dLc [3] (dIter (dVar 1)) (gN 3) dYes (dCall me (aRef 0 (aVal (dVar 3) aNil))))) (dRet (dIf (dTest (dBin fEq (dCall d__law_draw (aRef 0 (aVal (dC (.int 2)) aNil))) (dC (.int 0)))) (dVar 2) (dUn fTuple (dVar 2))))) dSkip) (dRet (dVar 1)))
@[irreducible] def d__law_dressed (m : Nat) : List Sl → R Vl := itN (fun me as => noEx as (runDef 2 4 (sd__law_dressed me) as)) m
theorem ok__law_dressed {P : Program} {w : World} {K : PySem.W.Frag} {mg : Str → Option Value} {base : Heap} (T : Txt K mg) (D : Dfn K mg "_law_dressed" s__law_dressed P__law_dressed) (c__law_draw : Cal P w K mg base 1 "_law_draw" P__law_draw d__law_draw) : ∀ m : Nat, Cal P w K mg base (m + 1) "_law_dressed" P__law_dressed (d__law_dressed m)
  | 0 => by
    rw [show d__law_dressed 0 = (fun _ => .bad) from by simp only [d__law_dressed, itN]]
    exact cal_none D
  | m + 1 => by
    rw [show d__law_dressed (m + 1) = (fun as => noEx as (runDef 2 4 (sd__law_dressed (d__law_dressed m)) as)) from by simp only [d__law_dressed, itN]]
    have IH := ok__law_dressed (P := P) (w := w) (base := base) T D c__law_draw m
    exact cal_of D fun f fd F => fn_n F sc__law_dressed fun cdv A outer s H E hr =>
      (pds_cons (pds_if (pdt_val (pd_isi T.b_isinstance T.b_tuple (pd_var 1))) (pds_cons (pds_setLc 2  (own := [("one", 3)]) (pdi_seq (pd_var 1)) sc__law_dressed.nd (blkOk_by (N := N__law_dressed) (sc := defScope s__law_dressed) (by decide +kernel)) (fun _ _ _ _ _ => (pdg_name 3 sc__law_dressed.nd)) (fun _ _ _ _ _ => ptsd_nil) (fun _ _ _ _ _ => (pd_cal IH (hr.mono (by omega)) (paa_ref 0 (paa_val (pd_var 3) paa_nil)))) (sw_true rfl rfl rfl (by decide +kernel))) (pds_one (pds_ret (pd_if (ptd_eq hr.units (pd_cal c__law_draw (hr.mono (by omega)) (paa_ref 0 (paa_val pd_int paa_nil))) pd_int) (pd_var 2) (pd_tuple T.b_tuple (pd_var 2)))))) pds_nil) (pds_one (pds_ret (pd_var 1))))
theorem okR__law_dressed {P : Program} {w : World} {K : PySem.W.Frag} {mg : Str → Option Value} {base : Heap} (T : Txt K mg) (D : Dfn K mg "_law_dressed" s__law_dressed P__law_dressed) (c__law_draw : Cal P w K mg base 1 "_law_draw" P__law_draw d__law_draw) : Cal P w K mg base 22 "_law_dressed" P__law_dressed (d__law_dressed fuelR) := (ok__law_dressed T D c__law_draw fuelR).mono (by decide)
def sd__law_alike (me : List Sl → R Vl) : Ds :=
  (dSeq (dIfS (dTest (dUn (fIsiT ["list", "tuple"]) (dVar 1))) (dSeq (dIfS (dOr (dTest (dBin fNe (dUn (fIsi "list") (dVar 0)) (dUn (fIsi "list") (dVar 1)))) (dTest (dBin fNe (dUn (fIsi "tuple") (dVar 0)) (dUn (fIsi "tuple") (dVar 1))))) (dRet (dC (.bool false))) dSkip) (dSeq (dIfS (dTest (dBin fNe (dUn fLen (dVar 0)) (dUn fLen (dVar 1)))) (dRet (dC (.bool false))) dSkip) (dRet (dBin fEqNil (dLc [2] (dRange1 (dCons (dUn fLen (dVar 1)) dNil)) (gN 2) (dNot (dTest (dCall me (aVal (dBin fIx (dVar 0) (dVar 2)) (aVal (dBin fIx (dVar 1) (dVar 2)) aNil))))) (dVar 2)) (dLst dNil))))) dSkip) (dSeq (dIfS (dOr (dTest (dBin fNe (dUn (fIsi "bool") (dVar 0)) (dUn (fIsi "bool") (dVar 1)))) (dTest (dBin fNe (dUn (fIsi "str") (dVar 0)) (dUn (fIsi "str") (dVar 1))))) (dRet (dC (.bool false))) dSkip) (dRet (dBin fEq (dVar 0) (dVar 1)))))
@[irreducible] def d__law_alike (m : Nat) : List Sl → R Vl := itN (fun me as => noEx as (runDef 2 3 (sd__law_alike me) as)) m
theorem ok__law_alike {P : Program} {w : World} {K : PySem.W.Frag} {mg : Str → Option Value} {base : Heap} (T : Txt K mg) (D : Dfn K mg "_law_alike" s__law_alike P__law_alike)  : ∀ m : Nat, Cal P w K mg base (m + 0) "_law_alike" P__law_alike (d__law_alike m)
  | 0 => by
    rw [show d__law_alike 0 = (fun _ => .bad) from by simp only [d__law_alike, itN]]
    exact cal_none D
  | m + 1 => by
    rw [show d__law_alike (m + 1) = (fun as => noEx as (runDef 2 3 (sd__law_alike (d__law_alike m)) as)) from by simp only [d__law_alike, itN]]
    have IH := ok__law_alike (P := P) (w := w) (base := base) T D  m
    exact cal_of D fun f fd F => fn_n F sc__law_alike fun cdv A outer s H E hr =>
      (pds_cons (pds_if (pdt_val (pd_isiT T.b_isinstance (pd_var 1) (pe_tys2 T.b_list T.b_tuple))) (pds_cons (pds_if (PW.pt (ptd_or (ptd_ne hr.units (pd_isi T.b_isinstance T.b_list (pd_var 0)) (pd_isi T.b_isinstance T.b_list (pd_var 1))) (pw_or1 (ptd_ne hr.units (pd_isi T.b_isinstance T.b_tuple (pd_var 0)) (pd_isi T.b_isinstance T.b_tuple (pd_var 1)))))) (pds_one (pds_ret pd_bl)) pds_nil) (pds_cons (pds_if (ptd_ne hr.units (pd_len T.b_len (pd_var 0)) (pd_len T.b_len (pd_var 1))) (pds_one (pds_ret pd_bl)) pds_nil) (pds_one (pds_ret (pd_eqNil (Nat.lt_of_le_of_lt (Nat.le_add_right _ _) hr.units) (pd_lc (own := [("k", 2)]) (pdi_range1 T.b_range (pad_cons (pd_len T.b_len (pd_var 1)) pad_nil)) sc__law_alike.nd (blkOk_by (N := N__law_alike) (sc := defScope s__law_alike) (by decide +kernel)) (fun _ _ _ _ _ => (pdg_name 2 sc__law_alike.nd)) (fun _ _ _ _ _ => (ptsd_one (ptd_not (pdt_val (pd_cal IH (hr.mono (by omega)) (paa_val (pd_ix (pd_var 0) (pd_var 2)) (paa_val (pd_ix (pd_var 1) (pd_var 2)) paa_nil))))))) (fun _ _ _ _ _ => (pd_var 2))) (pd_lst pad_nil)))))) pds_nil) (pds_cons (pds_if (PW.pt (ptd_or (ptd_ne hr.units (pd_isi T.b_isinstance T.b_bool (pd_var 0)) (pd_isi T.b_isinstance T.b_bool (pd_var 1))) (pw_or1 (ptd_ne hr.units (pd_isi T.b_isinstance T.b_str (pd_var 0)) (pd_isi T.b_isinstance T.b_str (pd_var 1)))))) (pds_one (pds_ret pd_bl)) pds_nil) (pds_one (pds_ret (pd_eq hr.units (pd_var 0) (pd_var 1))))))
theorem okR__law_alike {P : Program} {w : World} {K : PySem.W.Frag} {mg : Str → Option Value} {base : Heap} (T : Txt K mg) (D : Dfn K mg "_law_alike" s__law_alike P__law_alike)  : Cal P w K mg base 21 "_law_alike" P__law_alike (d__law_alike fuelR) := (ok__law_alike T D  fuelR).mono (by decide)
def sd_law : Ds :=
  (dSeq (dAsg 1 (dCall d__law_reel (aVal (dVar 0) aNil))) (dSeq (dFor (dRange1 (dCons (dBin fAdd (dC (.int 1)) (dBin fMin2 (dUn fLen (dVar 0)) (dC (.int 15)))) dNil)) (gN 2) (dSeq (dAsg 3 (dBin fIx (dLst (dCons (dC (.int 3)) (dCons (dC (.int 60)) (dCons (dBin fPow (dC (.int 10)) (dC (.int 30))) dNil)))) (dCall d__law_draw (aRef 1 (aVal (dC (.int 3)) aNil))))) (dSeq (dAsg 4 (dLst dNil)) (dSeq (dFor (dRange1 (dCons (dBin fIx (dLst (dCons (dCall d__law_draw (aRef 1 (aVal (dC (.int 5)) aNil))) (dCons (dCall d__law_draw (aRef 1 (aVal (dC (.int 61)) aNil))) dNil))) (dCall d__law_draw (aRef 1 (aVal (dC (.int 2)) aNil)))) dNil)) (gN 5) (dApp 4 (dTup (dCons (dCall d__law_draw (aRef 1 (aVal (dVar 3) aNil))) (dCons (dCall d__law_draw (aRef 1 (aVal (dC (.int 2)) aNil))) dNil))))) (dSeq (dAsg 6 (dUn (fJoin (" " : PySem.Str)) (dLcO 4 [10, 11] (gTupD 2 (gsCons (gN 10) (gsCons (gN 11) gsNil))) dYes (dBin fAdd (dUn fStrI (dVar 10)) (dBin fIx (dC (.str ("+-" : PySem.Str))) (dVar 11)))))) (dSeq (dAsg 7 (dCall (d__law_dressed fuelR) (aRef 1 (aVal (dUn fTuple (dVar 4)) aNil)))) (dSeq (dAsg 8 (dUn fReprH (dVar 7))) (dSeq (dIfS (dOr (dTest (dBin fNe (dCall d_ride_text (aVal (dVar 7) aNil)) (dVar 6))) (dOr (dTest (dBin fNe (dCall d_ride_text (aVal (dVar 4) aNil)) (dVar 6))) (dTest (dBin fNeS (dUn fReprH (dVar 7)) (dVar 8))))) (dRet (dC (.bool false))) dSkip) (dSeq (dAsg 9 (dCall d_read_ride (aVal (dVar 6) aNil))) (dSeq (dIfS (dNot (dTest (dCall (d__law_alike fuelR) (aRef 9 (aVal (dVar 4) aNil))))) (dRet (dC (.bool false))) dSkip) (dSeq (dApp 9 (dTup (dCons (dC (.int 0)) (dCons (dC (.int 0)) dNil)))) (dIfS (dNot (dTest (dCall (d__law_alike fuelR) (aVal (dCall d_read_ride (aVal (dVar 6) aNil)) (aVal (dVar 4) aNil))))) (dRet (dC (.bool false))) dSkip)))))))))))) (dRet (dC (.bool true)))))
def d_law (as : List Sl) : R Vl := noEx as (runDef 1 12 sd_law as)
theorem ok_law_fn {P : Program} {w : World} {K : PySem.W.Frag} {mg : Str → Option Value} {base : Heap} (T : Txt K mg) {f : Addr} {fd : FuncData} (F : Fun K "law" "law" s_law f fd) (c_ride_text : Cal P w K mg base 2 "ride_text" P_ride_text d_ride_text) (c_read_ride : Cal P w K mg base 4 "read_ride" P_read_ride d_read_ride) (c__law_reel : Cal P w K mg base 1 "_law_reel" P__law_reel d__law_reel) (c__law_draw : Cal P w K mg base 1 "_law_draw" P__law_draw d__law_draw) (c__law_dressed : Cal P w K mg base 22 "_law_dressed" P__law_dressed (d__law_dressed fuelR)) (c__law_alike : Cal P w K mg base 21 "_law_alike" P__law_alike (d__law_alike fuelR)) : FnQ P w K mg base 23 f fd ["script"] (dsp K d_law) :=
  fnq_n F sc_law fun cdv A outer s H E hg hr =>
    (pds_cons (pds_set 1 (pd_cal c__law_reel (hr.mono (by decide)) (paa_val (pd_var 0) paa_nil)) sc_law.nd) (pds_cons (pds_for PassesOwn.never (pdi_range1 T.b_range (pad_cons (pd_add pd_int (pd_min2 T.b_min (pd_len T.b_len (pd_var 0)) pd_int)) pad_nil)) (pdg_name 2 sc_law.nd) (pds_cons (pds_set 3 (pd_ix (pd_lst (pad_cons pd_int (pad_cons pd_int (pad_cons (pd_pow pd_int pd_int) pad_nil)))) (pd_cal c__law_draw (hr.mono (by decide)) (paa_ref 1 (paa_val pd_int paa_nil)))) sc_law.nd) (pds_cons (pds_set 4 (pd_lst pad_nil) sc_law.nd) (pds_cons (pds_for PassesOwn.never (pdi_range1 T.b_range (pad_cons (pd_ix (pd_lst (pad_cons (pd_cal c__law_draw (hr.mono (by decide)) (paa_ref 1 (paa_val pd_int paa_nil))) (pad_cons (pd_cal c__law_draw (hr.mono (by decide)) (paa_ref 1 (paa_val pd_int paa_nil))) pad_nil))) (pd_cal c__law_draw (hr.mono (by decide)) (paa_ref 1 (paa_val pd_int paa_nil)))) pad_nil)) (pdg_name 5 sc_law.nd) (pds_one (pds_app 4 (pd_tup (pad_cons (pd_cal c__law_draw (hr.mono (by decide)) (paa_ref 1 (paa_val (pd_var 3) paa_nil))) (pad_cons (pd_cal c__law_draw (hr.mono (by decide)) (paa_ref 1 (paa_val pd_int paa_nil))) pad_nil)))))) (pds_cons (pds_set 6 (pd_join (pd_lcO 4 (own := [("line", 10), ("side", 11)]) sc_law.nd (blkOk_by (N := N_law) (sc := defScope s_law) (by decide +kernel)) (fun _ _ _ _ _ => (pdg_tup (pdgs_cons (pdg_name 10 sc_law.nd) (pdgs_cons (pdg_name 11 sc_law.nd) pdgs_nil)))) (fun _ _ _ _ _ => ptsd_nil) (fun _ _ _ _ _ => (pd_add (pd_strI T.b_str (pd_var 10)) (pd_ix pd_str (pd_var 11)))))) sc_law.nd) (pds_cons (pds_set 7 (pd_cal c__law_dressed (hr.mono (by decide)) (paa_ref 1 (paa_val (pd_tuple T.b_tuple (pd_var 4)) paa_nil))) sc_law.nd) (pds_cons (pds_set 8 (pd_reprH T.b_repr hg hr (pd_var 7)) sc_law.nd) (pds_cons (pds_if (PW.pt (ptd_or (ptd_ne hr.units (pd_cal c_ride_text (hr.mono (by decide)) (paa_val (pd_var 7) paa_nil)) (pd_var 6)) (ptd_or (ptd_ne hr.units (pd_cal c_ride_text (hr.mono (by decide)) (paa_val (pd_var 4) paa_nil)) (pd_var 6)) (pw_or1 (ptd_neS (pd_reprH T.b_repr hg hr (pd_var 7)) (pd_var 8)))))) (pds_one (pds_ret pd_bl)) pds_nil) (pds_cons (pds_set 9 (pd_cal c_read_ride (hr.mono (by decide)) (paa_val (pd_var 6) paa_nil)) sc_law.nd) (pds_cons (pds_if (ptd_not (pdt_val (pd_cal c__law_alike (hr.mono (by decide)) (paa_ref 9 (paa_val (pd_var 4) paa_nil))))) (pds_one (pds_ret pd_bl)) pds_nil) (pds_cons (pds_app 9 (pd_tup (pad_cons pd_int (pad_cons pd_int pad_nil)))) (pds_one (pds_if (ptd_not (pdt_val (pd_cal c__law_alike (hr.mono (by decide)) (paa_val (pd_cal c_read_ride (hr.mono (by decide)) (paa_val (pd_var 6) paa_nil)) (paa_val (pd_var 4) paa_nil))))) (pds_one (pds_ret pd_bl)) pds_nil))))))))))))) (pds_one (pds_ret pd_bl))))
omit [Tabs] in
set_option maxHeartbeats 4000000 in
theorem all_tab (LT : ∀ [Tabs], ∀ ns : List Int, ns.length ≤ 63 → ∃ δ, d_law [.fz (.dict [(.none, .list (ns.map PyData.int))])] = .ok (.fz (.bool true)) δ) {l : PySem.W.OpenLaw} {w : World} {K : PySem.W.Frag} {h : Heap} {mg : Str → Option Value} {fa : Addr} {ex : PySem.W.Frag → Bool} (X : K.In h) (G : h.Ns mainGlobals mg) (hfa : mg "law" = some (.ref fa)) (c0 : He.SaysX faL fnL [] tfL ex w h K) : TopT l w K 23 63 "script" mg fa h := by
  letI : Tabs := ⟨(tfL.map (He.cT K)).map (·.2)⟩
  have c := c0.t.d
  have T : Txt K mg := ⟨He.free_ok X G (c.fact 11 (f := .free "all") rfl), He.free_ok X G (c.fact 12 (f := .free "bool") rfl), He.free_ok X G (c.fact 13 (f := .free "int") rfl), He.free_ok X G (c.fact 14 (f := .free "isinstance") rfl), He.free_ok X G (c.fact 15 (f := .free "len") rfl), He.free_ok X G (c.fact 16 (f := .free "list") rfl), He.free_ok X G (c.fact 17 (f := .free "min") rfl), He.free_ok X G (c.fact 18 (f := .free "range") rfl), He.free_ok X G (c.fact 19 (f := .free "repr") rfl), He.free_ok X G (c.fact 20 (f := .free "str") rfl), He.free_ok X G (c.fact 21 (f := .free "tuple") rfl)⟩
  have D0 : Dfn K mg "is_number" s_is_number P_is_number := dfn_at X G c 0 0 "is_number" rfl rfl fun _ _ _ _ _ _ us hl => match us, hl with | [_], _ => rfl
  have D1 : Dfn K mg "is_end_word" s_is_end_word P_is_end_word := dfn_at X G c 1 1 "is_end_word" rfl rfl fun _ _ _ _ _ _ us hl => match us, hl with | [_], _ => rfl
  have D2 : Dfn K mg "end_word" s_end_word P_end_word := dfn_at X G c 2 2 "end_word" rfl rfl fun _ _ _ _ _ _ us hl => match us, hl with | [_], _ => rfl
  have D3 : Dfn K mg "end_meant" s_end_meant P_end_meant := dfn_at X G c 3 3 "end_meant" rfl rfl fun _ _ _ _ _ _ us hl => match us, hl with | [_], _ => rfl
  have D4 : Dfn K mg "ride_text" s_ride_text P_ride_text := dfn_at X G c 4 4 "ride_text" rfl rfl fun _ _ _ _ _ _ us hl => match us, hl with | [_], _ => rfl
  have D5 : DfnC K mg "read_ride" s_read_ride P_read_ride (He.cT K ("read_ride", none)).1 := dfnC_at X G c 5 5 "read_ride" rfl rfl fun _ _ _ _ _ _ us hl => match us, hl with | [_], _ => rfl
  have D6 : Dfn K mg "_law_reel" s__law_reel P__law_reel := dfn_at X G c 6 6 "_law_reel" rfl rfl fun _ _ _ _ _ _ us hl => match us, hl with | [_], _ => rfl
  have D7 : Dfn K mg "_law_draw" s__law_draw P__law_draw := dfn_at X G c 7 7 "_law_draw" rfl rfl fun _ _ _ _ _ _ us hl => match us, hl with | [_, _], _ => rfl
  have D8 : Dfn K mg "_law_dressed" s__law_dressed P__law_dressed := dfn_at X G c 8 8 "_law_dressed" rfl rfl fun _ _ _ _ _ _ us hl => match us, hl with | [_, _], _ => rfl
  have D9 : Dfn K mg "_law_alike" s__law_alike P__law_alike := dfn_at X G c 9 9 "_law_alike" rfl rfl fun _ _ _ _ _ _ us hl => match us, hl with | [_, _], _ => rfl
  obtain ⟨fd, F⟩ := fun_at c 10 "law" (st := s_law) rfl
  have e := hfa.symm.trans (He.glo_ok X G (c.fact 10 (f := .glo "law") rfl))
  cases e
  have F0 := F
  obtain ⟨oc, od, kV, doc, pm, an, cdv, ct, osl, e, lk, hcd⟩ := F.ex
  refine ⟨fd, tfL.map (He.cT K), dsp K d_law, bare_at X c0, fun s u => by subst e; exact .of_eq rfl, fun H a ns hl _ kp hS => law_spT hS (fun P hP => ?_) (LT ns hl) fun H' hT => ⟨rfl, fun p hp => hT _ (List.mem_map.mpr ⟨p, hp, rfl⟩)⟩, fun base _ _ tb => ?_⟩
  · obtain ⟨p, hp, rfl⟩ := List.mem_map.mp hP
    exact kp p hp
  · have c_is_number := ok_is_number (P := l.prog) (w := w) (base := base) T D0 
    have c_is_end_word := ok_is_end_word (P := l.prog) (w := w) (base := base) T D1 c_is_number
    have c_end_word := ok_end_word (P := l.prog) (w := w) (base := base) T D2 
    have c_end_meant := ok_end_meant (P := l.prog) (w := w) (base := base) T D3 
    have c_ride_text := ok_ride_text (P := l.prog) (w := w) (base := base) T D4 c_end_word
    have c_read_ride := ok_read_ride (P := l.prog) (w := w) (base := base) T D5 (List.mem_map.mpr ⟨_, (List.mem_map.mpr ⟨(("read_ride", none) : He.Defn), by simp [tfL], rfl⟩), rfl⟩) (tb _ (List.mem_map.mpr ⟨(("read_ride", none) : He.Defn), by simp [tfL], rfl⟩)) c_is_end_word c_end_meant
    have c__law_reel := ok__law_reel (P := l.prog) (w := w) (base := base) T D6 
    have c__law_draw := ok__law_draw (P := l.prog) (w := w) (base := base) T D7 
    have c__law_dressed := okR__law_dressed (P := l.prog) (w := w) (base := base) T D8 c__law_draw
    have c__law_alike := okR__law_alike (P := l.prog) (w := w) (base := base) T D9 
    exact ok_law_fn T F0 c_ride_text c_read_ride c__law_reel c__law_draw c__law_dressed c__law_alike
end
end Lk55

namespace Lk55
open PySem PySem.Spec DL L2
section
variable [Tabs]
local macro_rules | `(tactic| walk_at "nrm") => `(tactic| focus ((try simp only [List.cons_append, List.nil_append, List.replicate_succ, List.replicate_zero, Nat.reduceSub, List.set_cons_zero, List.set_cons_succ, DL.with_arg, DL.with_own, DL.wipeD, List.map_cons, List.map_nil, DL.toArg, DL.back2, DL.back2a, DL.back, DL.back1]); rfl))
local macro_rules | `(tactic| walk_at "eshape") => `(tactic| assumption)
local macro_rules | `(tactic| walk_at "eshape") => `(tactic| rfl)
local macro_rules | `(tactic| walk_at "ebound") => `(tactic| focus (simp; omega))
local macro_rules | `(tactic| walk_at "ebound") => `(tactic| omega)
local macro_rules | `(tactic| walk_at "ebound") => `(tactic| assumption)
local macro_rules | `(tactic| walk_at "etest") => `(tactic| assumption)
local macro_rules | `(tactic| walk_at "ecall") => `(tactic| assumption)
local macro_rules | `(tactic| walk_at "etest") => `(tactic| focus (simp [*]; done))
local macro_rules | `(tactic| walk_at "etest") => `(tactic| rfl)
local macro_rules | `(tactic| walk_at "e1") => `(tactic| first | with_reducible apply DL.s_setI | with_reducible apply DL.s_app | with_reducible apply DL.s_ext | (with_reducible apply DL.m_arg; rfl) | (with_reducible apply DL.m_own; rfl) | (with_reducible apply DL.f_set; rfl; walk_at "nrm") | with_reducible apply DL.f_app | with_reducible apply DL.f_ext | (with_reducible apply DL.set_goal; walk_at "nrm") | with_reducible apply DL.s_seqG | with_reducible apply DL.step_b | with_reducible apply DL.k_nx | with_reducible exact DL.k_rt | with_reducible exact DL.k_ct | with_reducible exact DL.k_bk | with_reducible apply DL.s_asgG | with_reducible apply DL.s_asg | with_reducible apply DL.s_drop | with_reducible apply DL.s_ret | with_reducible apply DL.s_if | with_reducible exact DL.s_skip | (with_reducible apply DL.f_eq; walk_at "eshape"; walk_at "eshape") | (with_reducible apply DL.f_ne; walk_at "eshape"; walk_at "eshape") | with_reducible apply DL.f_addT | (with_reducible apply DL.f_ixT; assumption) | (with_reducible apply DL.f_ixL; assumption) | with_reducible apply DL.f_addL | with_reducible apply DL.s_par | with_reducible apply DL.s_for | with_reducible apply DL.i_it | with_reducible apply DL.i_r1 | with_reducible apply DL.r_lc | with_reducible apply DL.r_lc2 | with_reducible apply DL.i_enumT | with_reducible exact DL.t_yes | with_reducible apply DL.turn_e | with_reducible apply DL.g_tup | with_reducible apply DL.g_lst | with_reducible apply DL.g_cons | with_reducible exact DL.g_nil | with_reducible apply DL.g_n | (with_reducible apply DL.set_fz; rfl; walk_at "nrm") | (with_reducible apply DL.set_own; rfl; walk_at "nrm") | (with_reducible apply DL.p_t; walk_at "etest") | (with_reducible apply DL.p_f; walk_at "etest") | (with_reducible apply DL.v_fz; rfl) | (with_reducible apply DL.v_own; rfl) | (with_reducible apply DL.v_arg; rfl) | with_reducible exact DL.r_c | with_reducible apply DL.r_andB | with_reducible apply DL.r_bin | with_reducible apply DL.r_un | with_reducible apply DL.r_test | with_reducible apply DL.r_notV | with_reducible apply DL.r_and | with_reducible apply DL.r_or | with_reducible apply DL.r_not | with_reducible apply DL.r_if | with_reducible apply DL.r_chainB | with_reducible exact DL.l_nil | with_reducible apply DL.l_cons | with_reducible apply DL.r_tup | with_reducible apply DL.r_lst | with_reducible apply DL.o_some | with_reducible exact DL.o_none | with_reducible apply DL.r_sl | with_reducible exact DL.a_nil | with_reducible apply DL.a_val | with_reducible apply DL.a_ref | (with_reducible apply DL.small_of; focus (first | omega | (simp <;> omega))) | with_reducible apply DL.r_callR | with_reducible apply DL.r_call | walk_at "ecall" | (with_reducible apply DL.f_mod; walk_at "ebound") | (with_reducible apply DL.f_div; walk_at "ebound") | with_reducible apply DL.f_mulI | (with_reducible apply DL.wide_lt; walk_at "ebound") | (with_reducible apply DL.slim_lt; walk_at "ebound") | rfl | (walk_at "nrm"; done))
local macro_rules | `(tactic| walk_at "ev") => `(tactic| repeat' walk_at "e1")
local macro_rules | `(tactic| walk_at "w1") => `(tactic| first | with_reducible assumption | with_reducible exact DL.kp_fzE _ _ | with_reducible exact DL.kp_ownE _ _ | with_reducible exact DL.vw_fz _ _ | with_reducible exact DL.vw_ownE _ _ | ((with_reducible apply DL.kp_locF); with_unfolding_all rfl) | ((with_reducible apply DL.kp_locO); with_unfolding_all rfl; walk_at "nrm") | ((with_reducible apply DL.set_fz); with_unfolding_all rfl; walk_at "nrm") | ((with_reducible apply DL.set_own); with_unfolding_all rfl; walk_at "nrm") | ((with_reducible apply DL.m_own); with_unfolding_all rfl) | ((with_reducible apply DL.m_arg); with_unfolding_all rfl) | ((with_reducible apply DL.p_t); with_unfolding_all rfl) | ((with_reducible apply DL.p_f); with_unfolding_all rfl) | walk_at "e1")
local macro_rules | `(tactic| walk_at "ew") => `(tactic| repeat' walk_at "w1")
abbrev Ln := Int × Int × Nat
abbrev encL (l : Ln) : D := .tuple [.int l.1, .int l.2.1, .str ⟨#[l.2.2]⟩]
abbrev encW (p : Int) (ls : List Ln) : D := .tuple [.int p, .tuple (ls.map encL)]
def okC (c : Nat) : Prop := 97 ≤ c ∧ c ≤ 122
def okL (p : Int) (l : Ln) : Prop := 0 ≤ l.1 ∧ l.1 < p ∧ 0 ≤ l.2.1 ∧ l.2.1 < p ∧ okC l.2.2
structure OkW (p : Int) (ls : List Ln) : Prop where
  p0 : 0 ≤ p
  ln : ls.length ≤ 1000
  ok : ∀ l ∈ ls, okL p l
/-- a list or a tuple -/
abbrev sq (b : Bool) (ds : List D) : D := match b with
  | true => .list ds
  | false => .tuple ds
abbrev encM (m : Bool × Ln) : D := sq m.1 [.int m.2.1, .int m.2.2.1, .str ⟨#[m.2.2.2]⟩]
abbrev lns (ms : List (Bool × Ln)) : List Ln := ms.map fun m => m.2
abbrev encD (b c : Bool) (p : Int) (ms : List (Bool × Ln)) : D := sq b [.int p, sq c (ms.map encM)]

theorem cut_lo {α : Type} (xs : List α) (n : Nat) : cutL xs none (some (n : Int)) = xs.take n := by
  unfold cutL
  rw [HT.sIx_none, HT.sIx_nat, List.drop_zero, Nat.sub_zero, Nat.min_def]
  split
  · rfl
  · rw [List.take_of_length_le (Nat.le_refl _), List.take_of_length_le (by omega)]
theorem cut_hi {α : Type} (xs : List α) (n : Nat) : cutL xs (some (n : Int)) none = xs.drop n := by
  unfold cutL
  rw [HT.sIx_none, HT.sIx_nat, Nat.min_def]
  split
  · rw [List.take_of_length_le (by simp)]
  · rw [List.drop_of_length_le (Nat.le_refl _), List.drop_of_length_le (by omega)]
    simp

structure Rl where
  g : List Int
  t : List Int
  i : Nat
  s : Int
abbrev encR (r : Rl) : List D := [.list (r.g.map .int), .list (r.t.map .int), .int r.i, .int r.s]
structure RlOk (b : Nat) (r : Rl) : Prop where
  gp : ∀ x ∈ r.g, 0 ≤ x
  gl : r.g.length ≤ 1000
  t0 : 0 < r.t.length
  tl : r.t.length ≤ 1000
  tp : ∀ x ∈ r.t, 0 ≤ x ∧ x < 1000003
  ib : r.i ≤ b
  s0 : 0 ≤ r.s
  s1 : r.s < 2 ^ 127
theorem p64 : fPow (.int 2) (.int 64) = some (.fz (.int (2 ^ 64))) := rfl
theorem p63 : fPow (.int 2) (.int 63) = some (.fz (.int (2 ^ 63))) := rfl
theorem p40 : fPow (.int 2) (.int 40) = some (.fz (.int (2 ^ 40))) := rfl
theorem ix_in {xs : List Int} {j : Int} (h0 : 0 ≤ j) (h1 : j < xs.length) : ∃ x, x ∈ xs ∧ fIx (.list (xs.map PyData.int)) (.int j) = some (.fz (.int x)) := by
  obtain ⟨n, rfl⟩ := Int.eq_ofNat_of_zero_le h0
  have hn : n < xs.length := by omega
  refine ⟨xs[n], List.getElem_mem hn, ?_⟩
  exact f_ixL (by rw [List.getElem?_map, List.getElem?_eq_getElem hn]; rfl)
theorem mul_1 (q : Int) : fMul (.list [.int q]) (.int 1) = some (.own (.lst [.int q])) := by
  show okO (small (1 * Int.toNat 1) && decide (-1000000 ≤ (1 : Int)) && decide ((1 : Int) ≤ 1000000)) (some (Vl.own (.lst [.int q]))) = _
  rw [show (small (1 * Int.toNat 1) && decide (-1000000 ≤ (1 : Int)) && decide ((1 : Int) ≤ 1000000)) = true from by decide]
  rfl
theorem mul_0 (q : Int) : fMul (.list [.int q]) (.int 0) = some (.own (.lst [])) := by
  show okO (small (1 * Int.toNat 0) && decide (-1000000 ≤ (0 : Int)) && decide ((0 : Int) ≤ 1000000)) (some (Vl.own (.lst []))) = _
  rw [show (small (1 * Int.toNat 0) && decide (-1000000 ≤ (0 : Int)) && decide ((0 : Int) ≤ 1000000)) = true from by decide]
  rfl
theorem e_draw {b : Nat} {r : Rl} (h : RlOk b r) (hb : b ≤ 1000000) (m : Int) (h0 : 0 < m) (h1 : m ≤ 1000000) :
    ∃ v r', d__law_draw [.arg (.lst (encR r)), .fz (.int m)] = .ok (.fz (.int v)) [.arg (.lst (encR r')), .no] ∧ 0 ≤ v ∧ v < m ∧ RlOk (b + 1) r' := by
  have wm : wide m = true := wide_lt (by omega)
  obtain ⟨g, t, i, s⟩ := r
  obtain ⟨gp, gl, t0, tl, tp, ib, s0, s1⟩ := h
  simp only at gp gl t0 tl tp ib s0 s1
  have e64 := p64
  have e63 := p63
  have e40 := p40
  cases g with
  | nil =>
    have hj0 : 0 ≤ ((i : Int) + 1) % (t.map PyData.int).length := Int.emod_nonneg _ (by rw [List.length_map]; omega)
    have hj1 : ((i : Int) + 1) % (t.map PyData.int).length < t.length := by
      have := Int.emod_lt_of_pos ((i : Int) + 1) (b := ((t.map PyData.int).length : Int)) (by rw [List.length_map]; omega)
      rw [List.length_map] at this ⊢
      exact this
    obtain ⟨x, hx, ex⟩ := ix_in hj0 hj1
    have hx := tp x hx
    have hlen : 0 < ((t.map PyData.int).length : Int) := by rw [List.length_map]; omega
    have wss : wide s = true := wide_lt (by omega)
    have w40 : wide (2 ^ 40) = true := wide_lt (by decide)
    have hS0 : 0 ≤ (s * s + (x + 7) * 69621 + ((i : Int) + 1) * 1000003) % (2 ^ 64 * 2 ^ 63 - 1) := Int.emod_nonneg _ (by decide)
    have hS1 : (s * s + (x + 7) * 69621 + ((i : Int) + 1) * 1000003) % (2 ^ 64 * 2 ^ 63 - 1) < (2 ^ 64 * 2 ^ 63 - 1) := Int.emod_lt_of_pos _ (by decide)
    refine ⟨((s * s + (x + 7) * 69621 + ((i : Int) + 1) * 1000003) % (2 ^ 64 * 2 ^ 63 - 1)) / 2 ^ 40 % m, ⟨[], t, i + 1, (s * s + (x + 7) * 69621 + ((i : Int) + 1) * 1000003) % (2 ^ 64 * 2 ^ 63 - 1)⟩, ?_, Int.emod_nonneg _ (by omega), Int.emod_lt_of_pos _ h0, ⟨by simp, by simp, t0, tl, tp, by show i + 1 ≤ b + 1; omega, hS0, Int.lt_trans hS1 (by decide)⟩⟩
    try unfold d__law_draw
    apply run_v rfl
    · walk_at "nrm"
    · unfold sd__law_draw
      ((with_reducible apply DL.s_seqG); (with_reducible apply DL.s_if); (with_reducible apply DL.r_test); (with_reducible apply DL.r_bin); (with_reducible apply DL.r_bin); rfl; (with_reducible exact DL.r_c); rfl; rfl; rfl; (with_reducible apply DL.r_lst); (with_reducible exact DL.l_nil); (with_reducible apply DL.small_of; focus (first | omega | (simp <;> omega))); rfl; rfl; rfl; rfl; (with_reducible apply DL.k_nx); (with_reducible apply DL.s_seqG); (with_reducible apply DL.s_setI); (with_reducible apply DL.r_bin); (with_reducible apply DL.r_bin); rfl; (with_reducible exact DL.r_c); rfl; rfl; rfl; (with_reducible exact DL.r_c); rfl; rfl; rfl; rfl; rfl; (with_reducible exact DL.r_c); rfl; (with_reducible apply DL.k_nx); (with_reducible apply DL.s_seqG); (with_reducible apply DL.s_asg); (with_reducible apply DL.r_bin); (with_reducible apply DL.r_bin); rfl; (with_reducible exact DL.r_c); rfl; rfl; rfl; (with_reducible apply DL.r_bin); (with_reducible apply DL.r_bin); rfl; (with_reducible exact DL.r_c); rfl; rfl; rfl; (with_reducible apply DL.r_un); (with_reducible apply DL.r_bin); rfl; (with_reducible exact DL.r_c); rfl; rfl; rfl; rfl; rfl; rfl; rfl; (with_reducible apply DL.f_mod; walk_at "ebound"); rfl; rfl; walk_at "ecall"; rfl; (with_reducible apply DL.k_nx); (with_reducible apply DL.s_seqG); (with_reducible apply DL.s_asg); (with_reducible apply DL.r_bin); (with_reducible apply DL.r_bin); (with_reducible apply DL.r_bin); (with_reducible apply DL.r_bin); rfl; (with_reducible exact DL.r_c); rfl; rfl; rfl; (with_reducible apply DL.r_bin); rfl; (with_reducible exact DL.r_c); rfl; rfl; rfl; rfl; rfl; (with_reducible apply DL.f_mulI); walk_at "ecall"; walk_at "ecall"; (with_reducible apply DL.r_bin); (with_reducible apply DL.r_bin); rfl; (with_reducible exact DL.r_c); rfl; rfl; rfl; (with_reducible exact DL.r_c); rfl; rfl; (with_reducible apply DL.f_mulI); (with_reducible apply DL.wide_lt; walk_at "ebound"); (with_reducible apply DL.wide_lt; walk_at "ebound"); rfl; rfl; rfl; (with_reducible apply DL.r_bin); (with_reducible apply DL.r_bin); rfl; (with_reducible exact DL.r_c); rfl; rfl; rfl; (with_reducible exact DL.r_c); rfl; rfl; (with_reducible apply DL.f_mulI); (with_reducible apply DL.wide_lt; walk_at "ebound"); (with_reducible apply DL.wide_lt; walk_at "ebound"); rfl; rfl; rfl; rfl; (with_reducible apply DL.k_nx); (with_reducible apply DL.s_seqG); (with_reducible apply DL.s_setI); (with_reducible apply DL.r_bin); rfl; (with_reducible apply DL.r_bin); (with_reducible apply DL.r_bin); (with_reducible apply DL.r_bin); (with_reducible exact DL.r_c); (with_reducible exact DL.r_c); rfl; rfl; walk_at "ecall"; (with_reducible apply DL.r_bin); (with_reducible exact DL.r_c); (with_reducible exact DL.r_c); rfl; rfl; walk_at "ecall"; rfl; rfl; (with_reducible apply DL.f_mulI); (with_reducible apply DL.wide_lt; walk_at "ebound"); (with_reducible apply DL.wide_lt; walk_at "ebound"); (with_reducible exact DL.r_c); rfl; rfl; rfl; rfl; rfl; (with_reducible apply DL.f_mod; walk_at "ebound"); rfl; rfl; (with_reducible exact DL.r_c); rfl; (with_reducible apply DL.k_nx); (with_reducible apply DL.s_ret); (with_reducible apply DL.r_bin); (with_reducible apply DL.r_bin); (with_reducible apply DL.r_bin); rfl; (with_reducible exact DL.r_c); rfl; rfl; rfl; (with_reducible apply DL.r_bin); (with_reducible exact DL.r_c); (with_reducible exact DL.r_c); rfl; rfl; walk_at "ecall"; rfl; rfl; (with_reducible apply DL.f_div; walk_at "ebound"); (with_reducible apply DL.slim_lt; walk_at "ebound"); rfl; rfl; rfl; (with_reducible apply DL.f_mod; walk_at "ebound"))
    all_goals rfl
  | cons x gs =>
    show ∃ v r', d__law_draw [.arg (.lst [.list (PyData.int x :: gs.map PyData.int), .list (t.map .int), .int i, .int s]), .fz (.int m)] = .ok (.fz (.int v)) [.arg (.lst (encR r')), .no] ∧ 0 ≤ v ∧ v < m ∧ RlOk (b + 1) r'
    have hx0 : 0 ≤ x := gp x List.mem_cons_self
    have hsh : SeqAt.shaped (.list (PyData.int x :: gs.map PyData.int)) = true := shaped_ints (x :: gs)
    have hsm : (cutL (PyData.int x :: gs.map PyData.int) (some 1) none).length ≤ 1000 := (by
      rw [show (1 : Int) = ((1 : Nat) : Int) from rfl, cut_hi, List.length_drop, List.length_cons, List.length_map]
      have : gs.length + 1 ≤ 1000 := gl
      omega)
    have hcut : cutL (PyData.int x :: gs.map PyData.int) (some 1) none = gs.map PyData.int := by
      rw [show (1 : Int) = ((1 : Nat) : Int) from rfl, cut_hi]
      rfl
    have i1 : fInt (.bool true) = some (.fz (.int 1)) := rfl
    have i0 : fInt (.bool false) = some (.fz (.int 0)) := rfl
    have m1 := mul_1 (x / m)
    have m0 := mul_0 (x / m)
    have hn : fNe (.list (PyData.int x :: gs.map PyData.int)) (.list []) = some (.fz (.bool true)) := f_ne hsh rfl
    have hx00 : fIx (.list (PyData.int x :: gs.map PyData.int)) (.int 0) = some (.fz (.int x)) := f_ixL (n := 0) rfl
    by_cases hge : m ≤ x
    · have hq : fGe (.int x) (.int m) = some (.fz (.bool true)) := by
        show some (Vl.fz (.bool (decide (m ≤ x)))) = _
        rw [decide_eq_true hge]
      refine ⟨x % m, ⟨x / m :: gs, t, i, s⟩, ?_, Int.emod_nonneg _ (by omega), Int.emod_lt_of_pos _ h0, ⟨fun y hy => ?_, by have : (x :: gs).length ≤ 1000 := gl; simpa using this, t0, tl, tp, by show i ≤ b + 1; omega, s0, s1⟩⟩
      · try unfold d__law_draw
        apply run_v rfl
        · walk_at "nrm"
        · unfold sd__law_draw
          ((with_reducible apply DL.s_seqG); (with_reducible apply DL.s_if); (with_reducible apply DL.r_test); (with_reducible apply DL.r_bin); (with_reducible apply DL.r_bin); rfl; (with_reducible exact DL.r_c); rfl; rfl; rfl; (with_reducible apply DL.r_lst); (with_reducible exact DL.l_nil); (with_reducible apply DL.small_of; focus (first | omega | (simp <;> omega))); rfl; rfl; walk_at "ecall"; (with_reducible apply DL.p_t; walk_at "etest"); (with_reducible apply DL.s_seqG); (with_reducible apply DL.s_asg); (with_reducible apply DL.r_bin); (with_reducible apply DL.r_bin); rfl; (with_reducible exact DL.r_c); rfl; rfl; rfl; (with_reducible exact DL.r_c); rfl; rfl; walk_at "ecall"; rfl; (with_reducible apply DL.k_nx); (with_reducible apply DL.s_seqG); (with_reducible apply DL.s_setI); (with_reducible apply DL.r_bin); (with_reducible apply DL.r_bin); (with_reducible apply DL.r_lst); (with_reducible apply DL.l_cons); (with_reducible apply DL.r_bin); rfl; rfl; rfl; rfl; (with_reducible apply DL.f_div; walk_at "ebound"); (with_reducible apply DL.slim_lt; walk_at "ebound"); rfl; (with_reducible exact DL.l_nil); (with_reducible apply DL.small_of; focus (first | omega | (simp <;> omega))); (with_reducible apply DL.r_un); (with_reducible apply DL.r_bin); rfl; rfl; rfl; rfl; walk_at "ecall"; rfl; walk_at "ecall"; rfl; rfl; walk_at "ecall"; (with_reducible apply DL.r_sl); (with_reducible apply DL.r_bin); rfl; (with_reducible exact DL.r_c); rfl; rfl; rfl; (with_reducible apply DL.o_some); (with_reducible exact DL.r_c); (with_reducible exact DL.o_none); rfl; rfl; rfl; rfl; (with_reducible apply DL.f_addL); (with_reducible apply DL.small_of; focus (first | omega | (simp <;> omega))); rfl; rfl; (with_reducible exact DL.r_c); rfl; (with_reducible apply DL.k_nx); (with_reducible apply DL.s_ret); (with_reducible apply DL.r_bin); rfl; rfl; rfl; rfl; (with_reducible apply DL.f_mod; walk_at "ebound"); (with_reducible exact DL.k_rt))
        all_goals first | rfl | (rw [hcut]; rfl)
      · rcases List.mem_cons.mp hy with rfl | hy
        · exact Int.ediv_nonneg hx0 (by omega)
        · exact gp y (List.mem_cons_of_mem _ hy)
    · have hq : fGe (.int x) (.int m) = some (.fz (.bool false)) := by
        show some (Vl.fz (.bool (decide (m ≤ x)))) = _
        rw [decide_eq_false hge]
      refine ⟨x % m, ⟨gs, t, i, s⟩, ?_, Int.emod_nonneg _ (by omega), Int.emod_lt_of_pos _ h0, ⟨fun y hy => gp y (List.mem_cons_of_mem _ hy), by have : (x :: gs).length ≤ 1000 := gl; have : gs.length + 1 ≤ 1000 := this; show gs.length ≤ 1000; omega, t0, tl, tp, by show i ≤ b + 1; omega, s0, s1⟩⟩
      · try unfold d__law_draw
        apply run_v rfl
        · walk_at "nrm"
        · unfold sd__law_draw
          ((with_reducible apply DL.s_seqG); (with_reducible apply DL.s_if); (with_reducible apply DL.r_test); (with_reducible apply DL.r_bin); (with_reducible apply DL.r_bin); rfl; (with_reducible exact DL.r_c); rfl; rfl; rfl; (with_reducible apply DL.r_lst); (with_reducible exact DL.l_nil); (with_reducible apply DL.small_of; focus (first | omega | (simp <;> omega))); rfl; rfl; walk_at "ecall"; (with_reducible apply DL.p_t; walk_at "etest"); (with_reducible apply DL.s_seqG); (with_reducible apply DL.s_asg); (with_reducible apply DL.r_bin); (with_reducible apply DL.r_bin); rfl; (with_reducible exact DL.r_c); rfl; rfl; rfl; (with_reducible exact DL.r_c); rfl; rfl; walk_at "ecall"; rfl; (with_reducible apply DL.k_nx); (with_reducible apply DL.s_seqG); (with_reducible apply DL.s_setI); (with_reducible apply DL.r_bin); (with_reducible apply DL.r_bin); (with_reducible apply DL.r_lst); (with_reducible apply DL.l_cons); (with_reducible apply DL.r_bin); rfl; rfl; rfl; rfl; (with_reducible apply DL.f_div; walk_at "ebound"); (with_reducible apply DL.slim_lt; walk_at "ebound"); rfl; (with_reducible exact DL.l_nil); (with_reducible apply DL.small_of; focus (first | omega | (simp <;> omega))); (with_reducible apply DL.r_un); (with_reducible apply DL.r_bin); rfl; rfl; rfl; rfl; walk_at "ecall"; rfl; walk_at "ecall"; rfl; rfl; walk_at "ecall"; (with_reducible apply DL.r_sl); (with_reducible apply DL.r_bin); rfl; (with_reducible exact DL.r_c); rfl; rfl; rfl; (with_reducible apply DL.o_some); (with_reducible exact DL.r_c); (with_reducible exact DL.o_none); rfl; rfl; rfl; rfl; (with_reducible apply DL.f_addL); (with_reducible apply DL.small_of; focus (first | omega | (simp <;> omega))); rfl; rfl; (with_reducible exact DL.r_c); rfl; (with_reducible apply DL.k_nx); (with_reducible apply DL.s_ret); (with_reducible apply DL.r_bin); rfl; rfl; rfl; rfl; (with_reducible apply DL.f_mod; walk_at "ebound"); (with_reducible exact DL.k_rt))
        all_goals first | rfl | (rw [hcut]; rfl)
theorem e_drawG {b : Nat} {r : Rl} (h : RlOk b r) (hb : b ≤ 1000000) (m : Int) (h0 : 0 < m) (h1 : m ≤ 10 ^ 30) :
    ∃ v r', d__law_draw [.arg (.lst (encR r)), .fz (.int m)] = .ok (.fz (.int v)) [.arg (.lst (encR r')), .no] ∧ 0 ≤ v ∧ v < m ∧ RlOk (b + 1) r' := by
  have wm : wide m = true := wide_lt (by omega)
  obtain ⟨g, t, i, s⟩ := r
  obtain ⟨gp, gl, t0, tl, tp, ib, s0, s1⟩ := h
  simp only at gp gl t0 tl tp ib s0 s1
  have e64 := p64
  have e63 := p63
  have e40 := p40
  cases g with
  | nil =>
    have hj0 : 0 ≤ ((i : Int) + 1) % (t.map PyData.int).length := Int.emod_nonneg _ (by rw [List.length_map]; omega)
    have hj1 : ((i : Int) + 1) % (t.map PyData.int).length < t.length := by
      have := Int.emod_lt_of_pos ((i : Int) + 1) (b := ((t.map PyData.int).length : Int)) (by rw [List.length_map]; omega)
      rw [List.length_map] at this ⊢
      exact this
    obtain ⟨x, hx, ex⟩ := ix_in hj0 hj1
    have hx := tp x hx
    have hlen : 0 < ((t.map PyData.int).length : Int) := by rw [List.length_map]; omega
    have wss : wide s = true := wide_lt (by omega)
    have w40 : wide (2 ^ 40) = true := wide_lt (by decide)
    have hS0 : 0 ≤ (s * s + (x + 7) * 69621 + ((i : Int) + 1) * 1000003) % (2 ^ 64 * 2 ^ 63 - 1) := Int.emod_nonneg _ (by decide)
    have hS1 : (s * s + (x + 7) * 69621 + ((i : Int) + 1) * 1000003) % (2 ^ 64 * 2 ^ 63 - 1) < (2 ^ 64 * 2 ^ 63 - 1) := Int.emod_lt_of_pos _ (by decide)
    refine ⟨((s * s + (x + 7) * 69621 + ((i : Int) + 1) * 1000003) % (2 ^ 64 * 2 ^ 63 - 1)) / 2 ^ 40 % m, ⟨[], t, i + 1, (s * s + (x + 7) * 69621 + ((i : Int) + 1) * 1000003) % (2 ^ 64 * 2 ^ 63 - 1)⟩, ?_, Int.emod_nonneg _ (by omega), Int.emod_lt_of_pos _ h0, ⟨by simp, by simp, t0, tl, tp, by show i + 1 ≤ b + 1; omega, hS0, Int.lt_trans hS1 (by decide)⟩⟩
    try unfold d__law_draw
    apply run_v rfl
    · walk_at "nrm"
    · unfold sd__law_draw
      ((with_reducible apply DL.s_seqG); (with_reducible apply DL.s_if); (with_reducible apply DL.r_test); (with_reducible apply DL.r_bin); (with_reducible apply DL.r_bin); rfl; (with_reducible exact DL.r_c); rfl; rfl; rfl; (with_reducible apply DL.r_lst); (with_reducible exact DL.l_nil); (with_reducible apply DL.small_of; focus (first | omega | (simp <;> omega))); rfl; rfl; rfl; rfl; (with_reducible apply DL.k_nx); (with_reducible apply DL.s_seqG); (with_reducible apply DL.s_setI); (with_reducible apply DL.r_bin); (with_reducible apply DL.r_bin); rfl; (with_reducible exact DL.r_c); rfl; rfl; rfl; (with_reducible exact DL.r_c); rfl; rfl; rfl; rfl; rfl; (with_reducible exact DL.r_c); rfl; (with_reducible apply DL.k_nx); (with_reducible apply DL.s_seqG); (with_reducible apply DL.s_asg); (with_reducible apply DL.r_bin); (with_reducible apply DL.r_bin); rfl; (with_reducible exact DL.r_c); rfl; rfl; rfl; (with_reducible apply DL.r_bin); (with_reducible apply DL.r_bin); rfl; (with_reducible exact DL.r_c); rfl; rfl; rfl; (with_reducible apply DL.r_un); (with_reducible apply DL.r_bin); rfl; (with_reducible exact DL.r_c); rfl; rfl; rfl; rfl; rfl; rfl; rfl; (with_reducible apply DL.f_mod; walk_at "ebound"); rfl; rfl; walk_at "ecall"; rfl; (with_reducible apply DL.k_nx); (with_reducible apply DL.s_seqG); (with_reducible apply DL.s_asg); (with_reducible apply DL.r_bin); (with_reducible apply DL.r_bin); (with_reducible apply DL.r_bin); (with_reducible apply DL.r_bin); rfl; (with_reducible exact DL.r_c); rfl; rfl; rfl; (with_reducible apply DL.r_bin); rfl; (with_reducible exact DL.r_c); rfl; rfl; rfl; rfl; rfl; (with_reducible apply DL.f_mulI); walk_at "ecall"; walk_at "ecall"; (with_reducible apply DL.r_bin); (with_reducible apply DL.r_bin); rfl; (with_reducible exact DL.r_c); rfl; rfl; rfl; (with_reducible exact DL.r_c); rfl; rfl; (with_reducible apply DL.f_mulI); (with_reducible apply DL.wide_lt; walk_at "ebound"); (with_reducible apply DL.wide_lt; walk_at "ebound"); rfl; rfl; rfl; (with_reducible apply DL.r_bin); (with_reducible apply DL.r_bin); rfl; (with_reducible exact DL.r_c); rfl; rfl; rfl; (with_reducible exact DL.r_c); rfl; rfl; (with_reducible apply DL.f_mulI); (with_reducible apply DL.wide_lt; walk_at "ebound"); (with_reducible apply DL.wide_lt; walk_at "ebound"); rfl; rfl; rfl; rfl; (with_reducible apply DL.k_nx); (with_reducible apply DL.s_seqG); (with_reducible apply DL.s_setI); (with_reducible apply DL.r_bin); rfl; (with_reducible apply DL.r_bin); (with_reducible apply DL.r_bin); (with_reducible apply DL.r_bin); (with_reducible exact DL.r_c); (with_reducible exact DL.r_c); rfl; rfl; walk_at "ecall"; (with_reducible apply DL.r_bin); (with_reducible exact DL.r_c); (with_reducible exact DL.r_c); rfl; rfl; walk_at "ecall"; rfl; rfl; (with_reducible apply DL.f_mulI); (with_reducible apply DL.wide_lt; walk_at "ebound"); (with_reducible apply DL.wide_lt; walk_at "ebound"); (with_reducible exact DL.r_c); rfl; rfl; rfl; rfl; rfl; (with_reducible apply DL.f_mod; walk_at "ebound"); rfl; rfl; (with_reducible exact DL.r_c); rfl; (with_reducible apply DL.k_nx); (with_reducible apply DL.s_ret); (with_reducible apply DL.r_bin); (with_reducible apply DL.r_bin); (with_reducible apply DL.r_bin); rfl; (with_reducible exact DL.r_c); rfl; rfl; rfl; (with_reducible apply DL.r_bin); (with_reducible exact DL.r_c); (with_reducible exact DL.r_c); rfl; rfl; walk_at "ecall"; rfl; rfl; (with_reducible apply DL.f_div; walk_at "ebound"); (with_reducible apply DL.slim_lt; walk_at "ebound"); rfl; rfl; rfl; (with_reducible apply DL.f_mod; walk_at "ebound"))
    all_goals rfl
  | cons x gs =>
    show ∃ v r', d__law_draw [.arg (.lst [.list (PyData.int x :: gs.map PyData.int), .list (t.map .int), .int i, .int s]), .fz (.int m)] = .ok (.fz (.int v)) [.arg (.lst (encR r')), .no] ∧ 0 ≤ v ∧ v < m ∧ RlOk (b + 1) r'
    have hx0 : 0 ≤ x := gp x List.mem_cons_self
    have hsh : SeqAt.shaped (.list (PyData.int x :: gs.map PyData.int)) = true := shaped_ints (x :: gs)
    have hsm : (cutL (PyData.int x :: gs.map PyData.int) (some 1) none).length ≤ 1000 := (by
      rw [show (1 : Int) = ((1 : Nat) : Int) from rfl, cut_hi, List.length_drop, List.length_cons, List.length_map]
      have : gs.length + 1 ≤ 1000 := gl
      omega)
    have hcut : cutL (PyData.int x :: gs.map PyData.int) (some 1) none = gs.map PyData.int := by
      rw [show (1 : Int) = ((1 : Nat) : Int) from rfl, cut_hi]
      rfl
    have i1 : fInt (.bool true) = some (.fz (.int 1)) := rfl
    have i0 : fInt (.bool false) = some (.fz (.int 0)) := rfl
    have m1 := mul_1 (x / m)
    have m0 := mul_0 (x / m)
    have hn : fNe (.list (PyData.int x :: gs.map PyData.int)) (.list []) = some (.fz (.bool true)) := f_ne hsh rfl
    have hx00 : fIx (.list (PyData.int x :: gs.map PyData.int)) (.int 0) = some (.fz (.int x)) := f_ixL (n := 0) rfl
    by_cases hge : m ≤ x
    · have hq : fGe (.int x) (.int m) = some (.fz (.bool true)) := by
        show some (Vl.fz (.bool (decide (m ≤ x)))) = _
        rw [decide_eq_true hge]
      refine ⟨x % m, ⟨x / m :: gs, t, i, s⟩, ?_, Int.emod_nonneg _ (by omega), Int.emod_lt_of_pos _ h0, ⟨fun y hy => ?_, by have : (x :: gs).length ≤ 1000 := gl; simpa using this, t0, tl, tp, by show i ≤ b + 1; omega, s0, s1⟩⟩
      · try unfold d__law_draw
        apply run_v rfl
        · walk_at "nrm"
        · unfold sd__law_draw
          ((with_reducible apply DL.s_seqG); (with_reducible apply DL.s_if); (with_reducible apply DL.r_test); (with_reducible apply DL.r_bin); (with_reducible apply DL.r_bin); rfl; (with_reducible exact DL.r_c); rfl; rfl; rfl; (with_reducible apply DL.r_lst); (with_reducible exact DL.l_nil); (with_reducible apply DL.small_of; focus (first | omega | (simp <;> omega))); rfl; rfl; walk_at "ecall"; (with_reducible apply DL.p_t; walk_at "etest"); (with_reducible apply DL.s_seqG); (with_reducible apply DL.s_asg); (with_reducible apply DL.r_bin); (with_reducible apply DL.r_bin); rfl; (with_reducible exact DL.r_c); rfl; rfl; rfl; (with_reducible exact DL.r_c); rfl; rfl; walk_at "ecall"; rfl; (with_reducible apply DL.k_nx); (with_reducible apply DL.s_seqG); (with_reducible apply DL.s_setI); (with_reducible apply DL.r_bin); (with_reducible apply DL.r_bin); (with_reducible apply DL.r_lst); (with_reducible apply DL.l_cons); (with_reducible apply DL.r_bin); rfl; rfl; rfl; rfl; (with_reducible apply DL.f_div; walk_at "ebound"); (with_reducible apply DL.slim_lt; walk_at "ebound"); rfl; (with_reducible exact DL.l_nil); (with_reducible apply DL.small_of; focus (first | omega | (simp <;> omega))); (with_reducible apply DL.r_un); (with_reducible apply DL.r_bin); rfl; rfl; rfl; rfl; walk_at "ecall"; rfl; walk_at "ecall"; rfl; rfl; walk_at "ecall"; (with_reducible apply DL.r_sl); (with_reducible apply DL.r_bin); rfl; (with_reducible exact DL.r_c); rfl; rfl; rfl; (with_reducible apply DL.o_some); (with_reducible exact DL.r_c); (with_reducible exact DL.o_none); rfl; rfl; rfl; rfl; (with_reducible apply DL.f_addL); (with_reducible apply DL.small_of; focus (first | omega | (simp <;> omega))); rfl; rfl; (with_reducible exact DL.r_c); rfl; (with_reducible apply DL.k_nx); (with_reducible apply DL.s_ret); (with_reducible apply DL.r_bin); rfl; rfl; rfl; rfl; (with_reducible apply DL.f_mod; walk_at "ebound"); (with_reducible exact DL.k_rt))
        all_goals first | rfl | (rw [hcut]; rfl)
      · rcases List.mem_cons.mp hy with rfl | hy
        · exact Int.ediv_nonneg hx0 (by omega)
        · exact gp y (List.mem_cons_of_mem _ hy)
    · have hq : fGe (.int x) (.int m) = some (.fz (.bool false)) := by
        show some (Vl.fz (.bool (decide (m ≤ x)))) = _
        rw [decide_eq_false hge]
      refine ⟨x % m, ⟨gs, t, i, s⟩, ?_, Int.emod_nonneg _ (by omega), Int.emod_lt_of_pos _ h0, ⟨fun y hy => gp y (List.mem_cons_of_mem _ hy), by have : (x :: gs).length ≤ 1000 := gl; have : gs.length + 1 ≤ 1000 := this; show gs.length ≤ 1000; omega, t0, tl, tp, by show i ≤ b + 1; omega, s0, s1⟩⟩
      · try unfold d__law_draw
        apply run_v rfl
        · walk_at "nrm"
        · unfold sd__law_draw
          ((with_reducible apply DL.s_seqG); (with_reducible apply DL.s_if); (with_reducible apply DL.r_test); (with_reducible apply DL.r_bin); (with_reducible apply DL.r_bin); rfl; (with_reducible exact DL.r_c); rfl; rfl; rfl; (with_reducible apply DL.r_lst); (with_reducible exact DL.l_nil); (with_reducible apply DL.small_of; focus (first | omega | (simp <;> omega))); rfl; rfl; walk_at "ecall"; (with_reducible apply DL.p_t; walk_at "etest"); (with_reducible apply DL.s_seqG); (with_reducible apply DL.s_asg); (with_reducible apply DL.r_bin); (with_reducible apply DL.r_bin); rfl; (with_reducible exact DL.r_c); rfl; rfl; rfl; (with_reducible exact DL.r_c); rfl; rfl; walk_at "ecall"; rfl; (with_reducible apply DL.k_nx); (with_reducible apply DL.s_seqG); (with_reducible apply DL.s_setI); (with_reducible apply DL.r_bin); (with_reducible apply DL.r_bin); (with_reducible apply DL.r_lst); (with_reducible apply DL.l_cons); (with_reducible apply DL.r_bin); rfl; rfl; rfl; rfl; (with_reducible apply DL.f_div; walk_at "ebound"); (with_reducible apply DL.slim_lt; walk_at "ebound"); rfl; (with_reducible exact DL.l_nil); (with_reducible apply DL.small_of; focus (first | omega | (simp <;> omega))); (with_reducible apply DL.r_un); (with_reducible apply DL.r_bin); rfl; rfl; rfl; rfl; walk_at "ecall"; rfl; walk_at "ecall"; rfl; rfl; walk_at "ecall"; (with_reducible apply DL.r_sl); (with_reducible apply DL.r_bin); rfl; (with_reducible exact DL.r_c); rfl; rfl; rfl; (with_reducible apply DL.o_some); (with_reducible exact DL.r_c); (with_reducible exact DL.o_none); rfl; rfl; rfl; rfl; (with_reducible apply DL.f_addL); (with_reducible apply DL.small_of; focus (first | omega | (simp <;> omega))); rfl; rfl; (with_reducible exact DL.r_c); rfl; (with_reducible apply DL.k_nx); (with_reducible apply DL.s_ret); (with_reducible apply DL.r_bin); rfl; rfl; rfl; rfl; (with_reducible apply DL.f_mod; walk_at "ebound"); (with_reducible exact DL.k_rt))
        all_goals first | rfl | (rw [hcut]; rfl)

theorem p360 : fPow (.int 3) (.int 60) = some (.fz (.int (3 ^ 60))) := rfl
theorem p1018 : fPow (.int 10) (.int 18) = some (.fz (.int (10 ^ 18))) := rfl
theorem e_reel (ns : List Int) (h : ns.length ≤ 63) : ∃ r, d__law_reel [.fz (.dict [(.none, .list (ns.map PyData.int))])] = .ok (.own (.lst (encR r))) [.no] ∧ RlOk 0 r := by
  have e360 := p360
  have e1018 := p1018
  have e64 := p64
  have e63 := p63
  have hcut : cutL (ns.map PyData.int) none (some 63) = ns.map PyData.int := by
    rw [show (63 : Int) = ((63 : Nat) : Int) from rfl, cut_lo, List.take_of_length_le (by rw [List.length_map]; exact h)]
  have hsl : fSl (.dict [(.none, .list (ns.map PyData.int))]) none (some 63) = some (.own (.lst (ns.map PyData.int))) := by
    show some (Vl.own (.lst (cutL (ns.map PyData.int) none (some 63)))) = _
    rw [hcut]
  obtain ⟨δ', e1, s, sl, rfl, hs0, hs1, hsl1⟩ := for_inv (f := stepB (gN 2) (dAsg 1 (dBin fMod (dBin fAdd (dBin fAdd (dBin fMul (dVar 1) (dVar 1)) (dBin fMod (dVar 2) (dC (.int 1000000000000000003)))) (dC (.int 11))) (dBin fSub (dBin fMul (dBin fPow (dC (.int 2)) (dC (.int 64))) (dBin fPow (dC (.int 2)) (dC (.int 63)))) (dC (.int 1)))))) (P := fun δ => ∃ (s : Int) (sl : Sl), δ = [.fz (.dict [(.none, .list (ns.map PyData.int))]), .fz (.int s), sl, .no] ∧ 0 ≤ s ∧ s < 2 ^ 127 ∧ sl.held = false) (ns.map PyData.int) (fun d hd δ hP => by
    obtain ⟨n, hn, rfl⟩ := List.mem_map.mp hd
    obtain ⟨s, sl, rfl, h0, h1, h2⟩ := hP
    have ws : wide s = true := wide_lt (by omega)
    have hS0 : 0 ≤ (s * s + n % 1000000000000000003 + 11) % (2 ^ 64 * 2 ^ 63 - 1) := Int.emod_nonneg _ (by decide)
    have hS1 : (s * s + n % 1000000000000000003 + 11) % (2 ^ 64 * 2 ^ 63 - 1) < (2 ^ 64 * 2 ^ 63 - 1) := Int.emod_lt_of_pos _ (by decide)
    refine ⟨[.fz (.dict [(.none, .list (ns.map PyData.int))]), .fz (.int ((s * s + n % 1000000000000000003 + 11) % (2 ^ 64 * 2 ^ 63 - 1))), .fz (.int n), .no], ?_, _, _, rfl, hS0, Int.lt_trans hS1 (by decide), rfl⟩
    apply step_b
    · cases sl with
      | no => ((with_reducible apply DL.g_n); rfl)
      | fz d => ((with_reducible apply DL.g_n); rfl)
      | own c => cases h2
      | arg c => cases h2
    · ((with_reducible apply DL.s_asg); (with_reducible apply DL.r_bin); (with_reducible apply DL.r_bin); (with_reducible apply DL.r_bin); (with_reducible apply DL.r_bin); rfl; rfl; rfl; rfl; (with_reducible apply DL.f_mulI); walk_at "ecall"; walk_at "ecall"; (with_reducible apply DL.r_bin); rfl; (with_reducible exact DL.r_c); rfl; rfl; (with_reducible apply DL.f_mod; walk_at "ebound"); rfl; rfl; rfl; (with_reducible exact DL.r_c); rfl; rfl; rfl; (with_reducible apply DL.r_bin); (with_reducible apply DL.r_bin); (with_reducible apply DL.r_bin); (with_reducible exact DL.r_c); (with_reducible exact DL.r_c); rfl; rfl; walk_at "ecall"; (with_reducible apply DL.r_bin); (with_reducible exact DL.r_c); (with_reducible exact DL.r_c); rfl; rfl; walk_at "ecall"; rfl; rfl; (with_reducible apply DL.f_mulI); (with_reducible apply DL.wide_lt; walk_at "ebound"); (with_reducible apply DL.wide_lt; walk_at "ebound"); (with_reducible exact DL.r_c); rfl; rfl; rfl; rfl; rfl; (with_reducible apply DL.f_mod; walk_at "ebound"); rfl)) [.fz (.dict [(.none, .list (ns.map PyData.int))]), .fz (.int (3 ^ 60)), .no, .no] ⟨_, _, rfl, by decide, by decide, rfl⟩
  have hsm : small (ns.map PyData.int).length = true := small_of (by rw [List.length_map]; omega)
  have hfr : ∀ x : Sl, freeAt [2] [.fz (.dict [(.none, .list (ns.map PyData.int))]), .fz (.int s), sl, x] = true := fun x => by
    show (!sl.held && true) = true
    rw [hsl1]
    rfl
  have hbk : ∀ x y : Sl, x.held = false → back [.fz (.dict [(.none, .list (ns.map PyData.int))]), .fz (.int s), sl, x] [.fz (.dict [(.none, .list (ns.map PyData.int))]), .fz (.int s), y, x] = [.fz (.dict [(.none, .list (ns.map PyData.int))]), .fz (.int s), sl, x] := fun x y hx => by
    have hb : ∀ u v : Sl, u.held = false → back1 u v = u := fun u v hu => by cases u <;> first | rfl | cases hu
    show [back1 (.fz (.dict [(.none, .list (ns.map PyData.int))])) (.fz (.dict [(.none, .list (ns.map PyData.int))])), back1 (.fz (.int s)) (.fz (.int s)), back1 sl y, back1 x x] = _
    rw [hb sl y hsl1, hb x x hx]
    rfl
  have hf1 : (ns.filterMap fun n => if decide (10 ^ 18 ≤ n) = true then some (PyData.int (n - 10 ^ 18)) else none) = (ns.filterMap fun n => if decide (10 ^ 18 ≤ n) = true then some (n - 10 ^ 18) else none).map PyData.int := by
    rw [List.map_filterMap]
    congr 1
    funext n
    split <;> rfl
  refine ⟨⟨ns.filterMap fun n => if decide (10 ^ 18 ≤ n) = true then some (n - 10 ^ 18) else none, (ns.map fun n => n % 1000003) ++ [41], 0, s⟩, ?_, ?_⟩
  · try unfold d__law_reel
    apply run_o rfl
    · walk_at "nrm"
    · unfold sd__law_reel
      walk_at "ev"
      · exact (Bool.and_eq_true _ _).mpr ⟨hsm, hfr _⟩
      · refine DL.comp_map (φ := fun n => if decide (10 ^ 18 ≤ n) = true then some (PyData.int (n - 10 ^ 18)) else none) ns fun n hn => ?_
        apply turn_c
        · walk_at "nrm"
        · ((with_reducible apply DL.g_n); rfl)
        · ((with_reducible apply DL.r_test); (with_reducible apply DL.r_bin); rfl; (with_reducible apply DL.r_bin); (with_reducible exact DL.r_c); (with_reducible exact DL.r_c); rfl; rfl; walk_at "ecall"; rfl; rfl; rfl)
        · ((with_reducible apply DL.r_bin); rfl; (with_reducible apply DL.r_bin); (with_reducible exact DL.r_c); (with_reducible exact DL.r_c); rfl; rfl; walk_at "ecall"; rfl; rfl; rfl)
        · (rfl)
        · exact hbk _ _ rfl
        · exact hbk _ _ rfl
      walk_at "ev"
      · exact (Bool.and_eq_true _ _).mpr ⟨hsm, hfr _⟩
      · refine comp_map1 (ψ := fun n => PyData.int (n % 1000003)) fun n hn => ?_
        apply turn_1
        · walk_at "nrm"
        · ((with_reducible apply DL.g_n); rfl)
        · ((with_reducible exact DL.t_yes))
        · ((with_reducible apply DL.p_t; walk_at "etest"); (with_reducible apply DL.turn_e); (with_reducible apply DL.r_bin); rfl; (with_reducible exact DL.r_c); rfl; rfl; (with_reducible apply DL.f_mod; walk_at "ebound"); rfl)
        · exact hbk _ _ rfl
      ((with_reducible apply DL.small_of; focus (first | omega | (simp <;> omega))); rfl; rfl)
    · show Co.lst [.list _, .list _, .int 0, .int s] = Co.lst [.list _, .list _, .int 0, .int s]
      rw [hf1, List.map_append, List.map_map]
      rfl
    · rfl
  · refine ⟨fun x hx => ?_, ?_, by simp, by simp; omega, fun x hx => ?_, Nat.le_refl 0, hs0, hs1⟩
    · obtain ⟨n, _, hq⟩ := List.mem_filterMap.mp hx
      split at hq
      · rename_i hc
        have := of_decide_eq_true hc
        cases hq
        omega
      · cases hq
    · exact Nat.le_trans (List.length_filterMap_le _ _) (by omega)
    · rcases List.mem_append.mp hx with hx | hx
      · obtain ⟨n, _, rfl⟩ := List.mem_map.mp hx
        exact ⟨Int.emod_nonneg _ (by decide), Int.emod_lt_of_pos _ (by decide)⟩
      · have : x = 41 := by simpa using hx
        subst this
        exact ⟨by decide, by decide⟩

theorem RlOk.mono {b c : Nat} {r : Rl} (h : RlOk b r) (hc : b ≤ c) : RlOk c r := ⟨h.gp, h.gl, h.t0, h.tl, h.tp, Nat.le_trans h.ib hc, h.s0, h.s1⟩
def okS (w : Str) : Prop := 0 < w.cps.size ∧ w.cps.size ≤ 26 ∧ ∀ c ∈ w.cps.toList, okC c
theorem okS_all : ∀ w ∈ [("a" : PySem.Str), ("ab" : PySem.Str), ("aab" : PySem.Str), ("abc" : PySem.Str), ("abcdxyz" : PySem.Str), ("abcdefghijklmnopqrstuvwxyz" : PySem.Str)], okS w := by
  unfold okS okC
  decide +kernel
def netP (pl many wd : Int) (w : Str) (b : Nat) (xs : List D) (j : Nat) (δ : DS) : Prop := ∃ (r : Rl) (ls : List Ln) (sl : Sl), δ = [.arg (.lst (encR r)), .fz (.int 20), .own (.lst xs), .fz (.int pl), .fz (.int many), .fz (.str w), .fz (.int wd), .own (.lst (ls.map encL)), sl] ∧ sl.held = false ∧ RlOk (b + 3 * j) r ∧ ls.length = j ∧ ∀ l ∈ ls, okL pl l
theorem net_loop {pl many wd : Int} {w : Str} {b : Nat} {xs : List D} (hw : okS w) (hp : 0 < pl) (hd : 0 < wd) (hdp : wd ≤ pl) (hpl : pl ≤ 1000) (hb : b ≤ 100000) (n : Nat) (hn : n ≤ 20) (δ : DS) (h : netP pl many wd w b xs 0 δ) :
    ∃ δ', forL (stepB (gN 8) (dApp 7 (dTup (dCons (dCall d__law_draw (aRef 0 (aVal (dVar 6) aNil))) (dCons (dCall d__law_draw (aRef 0 (aVal (dVar 6) aNil))) (dCons (dBin fIx (dVar 5) (dCall d__law_draw (aRef 0 (aVal (dUn fLen (dVar 5)) aNil)))) dNil)))))) ((List.range n).map fun (i : Nat) => PyData.int i) δ = .ok .nx δ' ∧ netP pl many wd w b xs n δ' := by
  have key := for_idx (P := netP pl many wd w b xs) (f := stepB (gN 8) (dApp 7 (dTup (dCons (dCall d__law_draw (aRef 0 (aVal (dVar 6) aNil))) (dCons (dCall d__law_draw (aRef 0 (aVal (dVar 6) aNil))) (dCons (dBin fIx (dVar 5) (dCall d__law_draw (aRef 0 (aVal (dUn fLen (dVar 5)) aNil)))) dNil)))))) ((List.range n).map fun (i : Nat) => PyData.int i) 0 (fun j d hj δ hP => by
    have hjn : j < n := by
      have := (List.getElem?_eq_some_iff.mp hj).1
      simpa using this
    rw [Nat.zero_add] at hP ⊢
    obtain ⟨r, ls, sl, rfl, hs, hr, hl, hok⟩ := hP
    obtain ⟨v1, r1, e1, a1, a2, h1⟩ := e_draw hr (by omega) wd hd (by omega)
    obtain ⟨v2, r2, e2, b1, b2, h2⟩ := e_draw h1 (by omega) wd hd (by omega)
    obtain ⟨v3, r3, e3, c1, c2, h3⟩ := e_draw h2 (by omega) w.cps.size (by have := hw.1; omega) (by have := hw.2.1; omega)
    obtain ⟨c, hc, e4⟩ := ix_str (z := w) (by have := hw.2.1; omega) c1 c2
    have e5 := len_str (z := w) (by have := hw.2.1; omega)
    have hsm : (ls.map encL).length ≤ 20 := by rw [List.length_map]; omega
    refine ⟨[.arg (.lst (encR r3)), .fz (.int 20), .own (.lst xs), .fz (.int pl), .fz (.int many), .fz (.str w), .fz (.int wd), .own (.lst (ls.map encL ++ [encL (v1, v2, c)])), .fz d], ?_, r3, ls ++ [(v1, v2, c)], .fz d, ?_, rfl, h3.mono (by omega), by simp [hl], fun l hlm => ?_⟩
    · apply step_b
      · cases sl with
        | no => ((with_reducible apply DL.g_n); rfl)
        | fz d => ((with_reducible apply DL.g_n); rfl)
        | own c => cases hs
        | arg c => cases hs
      · walk_at "ev"
        exact m_own rfl (f_app (small_of (by omega))) rfl
    · rw [List.map_append]
      rfl
    · rcases List.mem_append.mp hlm with q | q
      · exact hok l q
      · have : l = (v1, v2, c) := by simpa using q
        subst this
        exact ⟨a1, by show v1 < pl; omega, b1, by show v2 < pl; omega, hw.2.2 c hc⟩) δ h
  rw [List.length_map, List.length_range, Nat.zero_add] at key
  exact key


/-! ### anything, an empty dict among it -/
def ok1 : D → Prop
  | .dict kvs => kvs = [(.bool true, .list []), (.bool false, .list [])]
  | .str z => z.cps.size ≤ 1000
  | _ => True
theorem ok1_dict {kvs : List (D × D)} (h : ok1 (.dict kvs)) : kvs = [(.bool true, .list []), (.bool false, .list [])] := h
def lineB (p : Int) (d : D) : Bool := match rowD d with
  | some [a, b, c] => belowB p a && (belowB p b && compB c)
  | _ => false
theorem ix_row {d a b c : D} (q : rowD d = some [a, b, c]) : fIx d (.int 0) = some (.fz a) ∧ fIx d (.int 1) = some (.fz b) ∧ fIx d (.int 2) = some (.fz c) := by
  cases d with
  | list ds => cases q; exact ⟨rfl, rfl, rfl⟩
  | tuple ds => cases q; exact ⟨rfl, rfl, rfl⟩
  | _ => cases q
theorem row3 {d : D} : (∃ a b c, rowD d = some [a, b, c]) ∨ (rowN 3 d = false ∧ ∀ p, lineB p d = false) := by
  unfold rowN lineB
  cases hr : rowD d with
  | none => exact .inr ⟨rfl, fun _ => rfl⟩
  | some ds =>
    match ds with
    | [a, b, c] => exact .inl ⟨a, b, c, rfl⟩
    | [] => exact .inr ⟨rfl, fun _ => rfl⟩
    | [_] => exact .inr ⟨rfl, fun _ => rfl⟩
    | [_, _] => exact .inr ⟨rfl, fun _ => rfl⟩
    | _ :: _ :: _ :: _ :: es =>
      refine .inr ⟨?_, fun _ => rfl⟩
      show (((es.length + 1 + 1 + 1 + 1 : Nat) : Int) == 3) = false
      rw [beq_eq_false_iff_ne]
      omega

theorem x_for {ti : Di} {g : Dg} {body : Ds} {δ δ1 δ2 : DS} {ds : List D} {c : Value} (hi : ti δ = .ok ds δ1) (h : forL (stepB g body) ds δ1 = .ex c δ2) : dFor ti g body δ = .ex c δ2 := by
  unfold dFor
  rw [hi]
  exact h
abbrev nf (s : Sl) : Prop := s = .no ∨ ∃ x, s = .fz x
/-- a thing that is a line's place: of a kind that one may look into -/
structure Ln1 (d : D) : Prop where
  s : ok1 d
  i : ∀ ds, rowD d = some ds → ∀ x ∈ ds, ok1 x
def webB (P L : D) : Bool := match P, rowD L with
  | .int p, some ds => decide (0 ≤ p) && ds.all (lineB p)
  | _, _ => false
def tupD (d : D) : D := .tuple ((rowD d).getD [])
theorem it_row {L : D} {ds : List D} (h : rowD L = some ds) {δ : DS} {i : Nat} (hi : δ[i]? = some (.fz L)) : dIter (dVar i) δ = .ok ds δ := by
  cases L with
  | list es => cases h; exact i_it (v_fz hi) rfl rfl
  | tuple es => cases h; exact i_it (v_fz hi) rfl rfl
  | _ => cases h
theorem lt_whole {P : D} (h : wholeB P = true) : ∃ p, P = .int p := by
  cases P with
  | int p => exact ⟨p, rfl⟩
  | _ => cases h

/-! ### the law's own look, at anything -/
def numB : D → Bool
  | .int i => decide (0 ≤ i)
  | _ => false
theorem abc_mem (c : Nat) : decide (c ∈ ("abcdefghijklmnopqrstuvwxyz" : PySem.Str).cps.toList) = (decide (97 ≤ c) && decide (c ≤ 122)) := by
  have e : ("abcdefghijklmnopqrstuvwxyz" : PySem.Str).cps.toList = List.range' 97 26 := by decide +kernel
  rw [e, ← Bool.decide_and]
  refine decide_eq_decide.mpr ?_
  rw [List.mem_range'_1]
  omega
theorem bel_num (p : Int) (x : D) : (!numB x || (match x with | .int i => decide (p ≤ i) | _ => false)) = !belowB p x := by
  cases x with
  | int i =>
    show (!decide (0 ≤ i) || decide (p ≤ i)) = !(decide (0 ≤ i) && decide (i < p))
    by_cases h1 : 0 ≤ i <;> by_cases h2 : i < p
    · rw [decide_eq_true h1, decide_eq_true h2, decide_eq_false (by omega)]; rfl
    · rw [decide_eq_true h1, decide_eq_false h2, decide_eq_true (by omega)]; rfl
    · rw [decide_eq_false h1]; rfl
    · rw [decide_eq_false h1]; rfl
  | _ => rfl
theorem num_int {x : D} (h : numB x = true) : ∃ i, x = .int i := by
  cases x with
  | int i => exact ⟨i, rfl⟩
  | _ => cases h

theorem comp_filter {α : Type} {f : D → DS → R (Option D)} {δ : DS} {enc ψ : α → D} {t : α → Bool} {xs : List α} (h : ∀ x ∈ xs, f (enc x) δ = .ok (if t x = true then some (ψ x) else none) δ) : compL f (xs.map enc) δ = .ok ((xs.filter t).map ψ) δ := by
  rw [DL.comp_map (φ := fun x => if t x = true then some (ψ x) else none) xs h]
  congr 1
  clear h
  induction xs with
  | nil => rfl
  | cons x xs ih =>
    rw [List.filterMap_cons, List.filter_cons]
    cases t x
    · simp [ih]
    · simp [ih]
def badL (p : Int) (xs : List D) : List D := xs.filter fun x => !belowB p x
theorem eqv_int (i j : Int) : (PyData.int i).eqv (.int j) = decide (i = j) := rfl
theorem badL_nil (p : Int) (a b : D) : (badL p [a, b]).isEmpty = (belowB p a && belowB p b) := by
  unfold badL
  cases h1 : belowB p a <;> cases h2 : belowB p b <;> simp [h1, h2]
theorem no_str {c : D} (h : isT c "str" = false) : compB c = false := by
  cases c with
  | str z => cases h
  | _ => rfl
theorem comp_sgn {z : Str} : compB (.str z) = (match sgn1 z with | some c => decide (97 ≤ c) && decide (c ≤ 122) | none => false) := by
  obtain ⟨⟨l⟩⟩ := z
  unfold sgn1
  match l with
  | [] => rfl
  | [c] => rfl
  | _ :: _ :: l => rfl
theorem sgn_len {z : Str} : (sgn1 z).isSome = decide (z.cps.size = 1) := by
  obtain ⟨⟨l⟩⟩ := z
  unfold sgn1
  match l with
  | [] => rfl
  | [c] => rfl
  | _ :: _ :: l =>
    show false = decide (l.length + 1 + 1 = 1)
    rw [decide_eq_false (by omega)]

theorem isi_row {d : D} (h : ok1 d) : fIsiT ["list", "tuple"] d = some (.fz (.bool (rowD d).isSome)) := by
  cases d with
  | dict kvs => cases ok1_dict h; rfl
  | _ => rfl
theorem fil_nil (p : Int) (ds : List D) : (ds.filter fun x => !lineB p x).isEmpty = ds.all (lineB p) := by
  induction ds with
  | nil => rfl
  | cons d ds ih =>
    rw [List.filter_cons, List.all_cons, ← ih]
    cases lineB p d <;> rfl

abbrev encQ (q : Str × Bool) : D := .tuple [.str q.1, .bool q.2]
theorem kd_lc {X : D} (qs : List (Str × Bool)) (hl : qs.length ≤ 100) : dLc [3, 4] (dIter (dVar 1)) (gTupD 2 (gsCons (gN 3) (gsCons (gN 4) gsNil))) (dTest (dVar 4)) (dVar 3) [.fz X, .own (.lst (qs.map encQ)), .no, .no, .no] = .ok (.own (.lst ((qs.filter fun q => q.2).map fun q => PyData.str q.1))) [.fz X, .fz (.list (qs.map encQ)), .no, .no, .no] := by
  refine r_lc (ds := qs.map encQ) (δ1 := [.fz X, .fz (.list (qs.map encQ)), .no, .no, .no]) ?_ ?_ ?_
  · refine i_it (v_own (by rfl)) (kp_locO (by rfl) (by rfl)) ?_
    rfl
  · rw [small_of (by rw [List.length_map]; omega)]
    rfl
  · refine comp_filter (enc := encQ) (ψ := fun q => PyData.str q.1) (t := fun q => q.2) fun q hq => ?_
    obtain ⟨n, b⟩ := q
    generalize qs.map encQ = Q at *
    cases b
    · apply turn_1 (k := false)
      · walk_at "nrm"
      · ((with_reducible apply DL.g_tup); rfl; (with_reducible apply DL.g_cons); (with_reducible apply DL.g_n); ((with_reducible apply DL.set_fz); with_unfolding_all rfl; walk_at "nrm"); (with_reducible apply DL.g_cons); (with_reducible apply DL.g_n); ((with_reducible apply DL.set_fz); with_unfolding_all rfl; walk_at "nrm"); (with_reducible exact DL.g_nil))
      · ((with_reducible apply DL.r_test); rfl)
      · rfl
      · rfl
    · apply turn_1 (k := true)
      · walk_at "nrm"
      · ((with_reducible apply DL.g_tup); rfl; (with_reducible apply DL.g_cons); (with_reducible apply DL.g_n); ((with_reducible apply DL.set_fz); with_unfolding_all rfl; walk_at "nrm"); (with_reducible apply DL.g_cons); (with_reducible apply DL.g_n); ((with_reducible apply DL.set_fz); with_unfolding_all rfl; walk_at "nrm"); (with_reducible exact DL.g_nil))
      · ((with_reducible apply DL.r_test); rfl)
      · (((with_reducible apply DL.p_t); with_unfolding_all rfl); rfl)
      · rfl
def kds : List (Str × Bool) := [("NoWeb", true), ("NoPlace", false), ("NoCompany", false), ("NoLine", false), ("NoEnd", false), ("NoRide", false), ("NoNumber", false), ("NoTurning", false), ("TooMany", false), ("NoText", false), ("NoForm", false), ("NoneYet", false)]

def dueB (P L : D) : Str := if webB P L = true then "none" else "NoWeb"

/-! ### things that can be shown: how large they are -/
mutual
def wt : D → Nat
  | .list ds => 40 + wtA ds
  | .tuple ds => 40 + wtA ds
  | .none => 40
  | .bool _ => 40
  | .int _ => 40
  | .str _ => 40
  | .dict _ => 40
def wtA : List D → Nat
  | [] => 0
  | d :: ds => wt d + wtA ds
end
mutual
def okT : D → Bool
  | .none => true
  | .bool _ => true
  | .int i => decide (i.natAbs < 10 ^ 30)
  | .str z => decide (z.cps.size ≤ 1000) && decide ((reprText z).length ≤ 38)
  | .list ds => okTA ds
  | .tuple ds => okTA ds
  | .dict kvs => isE0 kvs
def okTA : List D → Bool
  | [] => true
  | d :: ds => okT d && okTA ds
end
abbrev dpT (d : D) : Nat := (unD d).depth
abbrev dpA (ds : List D) : Nat := PyData.depthAll (unA ds)
theorem okTA_cons {d : D} {ds : List D} : okTA (d :: ds) = true ↔ okT d = true ∧ okTA ds = true := by
  show (okT d && okTA ds) = true ↔ _
  rw [Bool.and_eq_true]
theorem okTA_mem : ∀ {ds : List D}, okTA ds = true → ∀ d ∈ ds, okT d = true
  | [], _, _, h => nomatch h
  | d :: ds, o, x, h => by
    have o := okTA_cons.mp o
    rcases List.mem_cons.mp h with rfl | h
    · exact o.1
    · exact okTA_mem o.2 x h
theorem okTA_of : ∀ {ds : List D}, (∀ d ∈ ds, okT d = true) → okTA ds = true
  | [], _ => rfl
  | d :: ds, o => okTA_cons.mpr ⟨o d List.mem_cons_self, okTA_of fun x h => o x (List.mem_cons_of_mem _ h)⟩
theorem wt_ge : ∀ d : D, 40 ≤ wt d
  | .list ds => by unfold wt; omega
  | .tuple ds => by unfold wt; omega
  | .none => Nat.le_refl _
  | .bool _ => Nat.le_refl _
  | .int _ => Nat.le_refl _
  | .str _ => Nat.le_refl _
  | .dict _ => Nat.le_refl _
theorem wtA_app : ∀ xs ys : List D, wtA (xs ++ ys) = wtA xs + wtA ys
  | [], ys => by rw [List.nil_append, wtA, Nat.zero_add]
  | x :: xs, ys => by
    rw [List.cons_append, wtA, wtA, wtA_app xs ys]
    omega
theorem wtA_mem : ∀ {ds : List D} {d : D}, d ∈ ds → wt d ≤ wtA ds
  | x :: xs, d, h => by
    rw [wtA]
    rcases List.mem_cons.mp h with rfl | h
    · omega
    · have := wtA_mem h
      omega
theorem wtA_len : ∀ ds : List D, 40 * ds.length ≤ wtA ds
  | [] => Nat.le_refl _
  | d :: ds => by
    have := wtA_len ds
    have := wt_ge d
    rw [List.length_cons, wtA]
    omega
theorem dpA_mem : ∀ {ds : List D} {d : D}, d ∈ ds → dpT d ≤ dpA ds
  | x :: xs, d, h => by
    show (unD d).depth ≤ PyData.depthAll (unD x :: unA xs)
    rw [PyData.depthAll]
    rcases List.mem_cons.mp h with rfl | h
    · exact Nat.le_max_left _ _
    · exact Nat.le_trans (dpA_mem h) (Nat.le_max_right _ _)
theorem dpA_le : ∀ {ds : List D} {n : Nat}, (∀ d ∈ ds, dpT d ≤ n) → dpA ds ≤ n
  | [], _, _ => Nat.zero_le _
  | x :: xs, n, h => by
    show PyData.depthAll (unD x :: unA xs) ≤ n
    rw [PyData.depthAll]
    exact Nat.max_le.mpr ⟨h x List.mem_cons_self, dpA_le fun d hd => h d (List.mem_cons_of_mem _ hd)⟩
theorem dp_row (c : Bool) (ds : List D) : dpT (sq c ds) = dpA ds + 1 := by
  cases c
  · show (PyData.tuple (unA ds)).depth = _
    rw [PyData.depth]
  · show (PyData.list (unA ds)).depth = _
    rw [PyData.depth]
theorem wt_row (c : Bool) (ds : List D) : wt (sq c ds) = 40 + wtA ds := by
  cases c <;> rfl
theorem okT_row (c : Bool) (ds : List D) : okT (sq c ds) = okTA ds := by
  cases c <;> rfl
mutual
theorem okT_okH : ∀ d : D, okT d = true → okH d = true
  | .none, _ => rfl
  | .bool _, _ => rfl
  | .int i, h => by
    have h : i.natAbs < 10 ^ 30 := by unfold okT at h; exact of_decide_eq_true h
    show decide (i.natAbs.log2 < 1920) = true
    rw [decide_eq_true_eq]
    by_cases z : i.natAbs = 0
    · rw [z]; decide
    · exact (Nat.log2_lt z).mpr (Nat.lt_trans h (by decide +kernel))
  | .str _, _ => rfl
  | .list ds, h => okTA_okHA ds h
  | .tuple ds, h => okTA_okHA ds h
  | .dict kvs, h => h
theorem okTA_okHA : ∀ ds : List D, okTA ds = true → okHA ds = true
  | [], _ => rfl
  | d :: ds, h => by
    have h := okTA_cons.mp h
    show (okH d && okHA ds) = true
    rw [okT_okH d h.1, okTA_okHA ds h.2]
    rfl
end
mutual
theorem sh_wt : ∀ d : D, okT d = true → (unD d).shown.length + 2 ≤ wt d
  | .none, _ => by decide
  | .bool b, _ => by cases b <;> decide
  | .int i, h => by
    have h : i.natAbs < 10 ^ 30 := by unfold okT at h; exact of_decide_eq_true h
    have e := int_text_length_le10 (k := 30) (by decide) h
    have e2 : (PyData.shown (.int i)).length ≤ 31 := by
      show (Str.ofString (toString i)).length ≤ 31
      rw [ofString_length]
      exact e
    show (PyData.shown (.int i)).length + 2 ≤ 40
    omega
  | .str z, h => by
    have h : (decide (z.cps.size ≤ 1000) && decide ((reprText z).length ≤ 38)) = true := h
    rw [Bool.and_eq_true, decide_eq_true_eq, decide_eq_true_eq] at h
    show (reprText z).length + 2 ≤ 40
    omega
  | .list ds, h => by
    have h1 := sh_wtA ds h
    have h2 := listText_len_le (PyData.shownAll (unA ds))
    have h3 := PyData.shownAll_length (unA ds)
    show (PyData.shown (.list (unA ds))).length + 2 ≤ 40 + wtA ds
    simp only [PyData.shown]
    omega
  | .tuple ds, h => by
    have h1 := sh_wtA ds h
    have h2 := tupleText_len_le (PyData.shownAll (unA ds))
    have h3 := PyData.shownAll_length (unA ds)
    show (PyData.shown (.tuple (unA ds))).length + 2 ≤ 40 + wtA ds
    simp only [PyData.shown]
    omega
  | .dict kvs, _ => by
    show (PyData.shown (.dict [])).length + 2 ≤ 40
    decide
theorem sh_wtA : ∀ ds : List D, okTA ds = true → ((PyData.shownAll (unA ds)).map (·.length)).sum + 2 * (unA ds).length ≤ wtA ds
  | [], _ => Nat.le_refl _
  | d :: ds, h => by
    have h := okTA_cons.mp h
    have h1 := sh_wt d h.1
    have h2 := sh_wtA ds h.2
    simp only [unA, PyData.shownAll, List.map_cons, List.sum_cons, List.length_cons, wtA]
    omega
end
/-- what is tame can be shown -/
theorem rep_tame {d : D} (h : okT d = true) (hd : dpT d ≤ 64) (hw : wt d ≤ 100000) : ∃ y : Str, fReprH d = some (.fz (.str y)) := by
  have s := sh_wt d h
  have sz : (unD d).shown.length ≤ sizeLine := by rw [sizeLine_eq]; omega
  cases d with
  | list ds =>
    refine ⟨(unD (.list ds)).shown, ?_⟩
    show okO (okHA ds && decide ((unD (.list ds)).depth ≤ 64) && decide ((unD (.list ds)).shown.length ≤ sizeLine)) _ = _
    rw [okTA_okHA ds h, decide_eq_true hd, decide_eq_true sz]
    rfl
  | tuple ds =>
    refine ⟨(unD (.tuple ds)).shown, ?_⟩
    show okO (okHA ds && decide ((unD (.tuple ds)).depth ≤ 64) && decide ((unD (.tuple ds)).shown.length ≤ sizeLine)) _ = _
    rw [okTA_okHA ds h, decide_eq_true hd, decide_eq_true sz]
    rfl
  | none => exact ⟨_, rfl⟩
  | bool b => exact ⟨_, rfl⟩
  | int i =>
    refine ⟨Str.ofString (toString i), ?_⟩
    show okO (decide (i.natAbs.log2 < 1920)) _ = _
    rw [show decide (i.natAbs.log2 < 1920) = true from okT_okH (.int i) h]
    rfl
  | str z =>
    refine ⟨reprText z, ?_⟩
    show okO (decide ((reprText z).length ≤ sizeLine)) _ = _
    rw [decide_eq_true (show (reprText z).length ≤ sizeLine from sz)]
    rfl
  | dict kvs =>
    have e := isE0_eq (show isE0 kvs = true from h)
    subst e
    exact ⟨_, rfl⟩
theorem ok1_tame {d : D} (h : okT d = true) : ok1 d := by
  cases d with
  | dict kvs => exact isE0_eq (show isE0 kvs = true from h)
  | str z =>
    have h : (decide (z.cps.size ≤ 1000) && decide ((reprText z).length ≤ 38)) = true := h
    rw [Bool.and_eq_true, decide_eq_true_eq, decide_eq_true_eq] at h
    exact h.1
  | _ => trivial
theorem row_sq {d : D} {ds : List D} (h : rowD d = some ds) : ∃ c, d = sq c ds := by
  cases d with
  | list es => cases h; exact ⟨true, rfl⟩
  | tuple es => cases h; exact ⟨false, rfl⟩
  | _ => cases h
theorem ln1_tame {d : D} (h : okT d = true) : Ln1 d := ⟨ok1_tame h, fun ds hr x hx => by
  obtain ⟨c, rfl⟩ := row_sq hr
  rw [okT_row] at h
  exact ok1_tame (okTA_mem h x hx)⟩
theorem lns_tame {d : D} (h : okT d = true) (hw : wt d ≤ 20000) : ∀ ds, rowD d = some ds → (∀ x ∈ ds, Ln1 x) ∧ ds.length ≤ 500 := fun ds hr => by
  obtain ⟨c, rfl⟩ := row_sq hr
  rw [okT_row] at h
  rw [wt_row] at hw
  have := wtA_len ds
  exact ⟨fun x hx => ln1_tame (okTA_mem h x hx), by omega⟩

/-! ### dressed: anything tame -/
abbrev vsq (b : Bool) (ds : List D) : Vl := match b with
  | true => .own (.lst ds)
  | false => .fz (.tuple ds)
theorem turn_s {vs : List Nat} {te : De} {g : Dg} {d y : D} {δ δ2 δ4 δ5 δ6 : DS} {x : Vl} {δ0 : DS} (hw : wipeD (δ.map toArg) vs = δ0) (hg : g d δ0 = .ok .nx δ2) (he : te δ2 = .ok x δ4) (hk : kp x δ4 = .ok y δ5) (hb : back δ δ5 = δ6) : turnL vs g dYes te d δ = .ok (some y) δ6 := by
  subst hw hb
  unfold turnL onTurn
  simp only [hg, t_yes]
  show backR δ ((te δ2).bind fun x δ4 => (kp x δ4).bind fun d δ5 => R.ok (some d) δ5) = _
  rw [he]
  simp only [R.bind, hk, backR]
theorem dr_succ (n : Nat) (as : List Sl) : d__law_dressed (n + 1) as = noEx as (runDef 2 4 (sd__law_dressed (d__law_dressed n)) as) := by
  simp only [d__law_dressed, itN]
theorem dr_keep (n : Nat) (r : Rl) {d : D} (h : fIsi "tuple" d = some (.fz (.bool false))) : d__law_dressed (n + 1) [.arg (.lst (encR r)), .fz d] = .ok (.fz d) [.arg (.lst (encR r)), .no] := by
  rw [dr_succ]
  apply run_v rfl
  · walk_at "nrm"
  · unfold sd__law_dressed
    ((with_reducible apply DL.s_seqG); (with_reducible apply DL.s_if); (with_reducible apply DL.r_test); (with_reducible apply DL.r_un); rfl; (with_reducible exact DL.vw_fz _ _); (with_reducible assumption); ((with_reducible apply DL.p_f); with_unfolding_all rfl); (with_reducible exact DL.s_skip); (with_reducible apply DL.k_nx); (with_reducible apply DL.s_ret); rfl)
  all_goals rfl
theorem dr_row (n : Nat) {b : Nat} {r r1 : Rl} {ds es : List D} (hd : small ds.length = true) (h1 : RlOk b r1) (hb : b ≤ 900000)
    (hc : compL (turnL [3] (gN 3) dYes (dCall (d__law_dressed n) (aRef 0 (aVal (dVar 3) aNil)))) ds [.arg (.lst (encR r)), .fz (.tuple ds), .no, .no] = .ok es [.arg (.lst (encR r1)), .fz (.tuple ds), .no, .no]) :
    ∃ (c : Bool) (r' : Rl), d__law_dressed (n + 1) [.arg (.lst (encR r)), .fz (.tuple ds)] = .ok (vsq c es) [.arg (.lst (encR r')), .no] ∧ RlOk (b + 1) r' := by
  obtain ⟨v, r2, e2, a2, b2, h2⟩ := e_draw h1 (by omega) 2 (by decide) (by decide)
  have hs : (small ds.length && freeAt [3] [.arg (.lst (encR r)), .fz (.tuple ds), .no, .no]) = true := by
    rw [hd]
    rfl
  have ht : isT (.tuple ds) "tuple" = true := rfl
  by_cases hv : v = 0
  · have hq : fEq (.int v) (.int 0) = some (.fz (.bool true)) := by
      rw [hv]
      rfl
    refine ⟨true, r2, ?_, h2⟩
    rw [dr_succ]
    apply run_rt rfl
    · walk_at "nrm"
    · unfold sd__law_dressed
      ((with_reducible apply DL.s_seqG); (with_reducible apply DL.s_if); (with_reducible apply DL.r_test); (with_reducible apply DL.r_un); rfl; rfl; rfl; (with_reducible apply DL.p_t; walk_at "etest"); (with_reducible apply DL.s_seqG); (with_reducible apply DL.s_asg); (with_reducible apply DL.r_lc); (with_reducible apply DL.i_it); rfl; rfl; rfl; walk_at "ecall"; walk_at "ecall"; rfl; (with_reducible apply DL.k_nx); (with_reducible apply DL.s_ret); (with_reducible apply DL.r_if); (with_reducible apply DL.r_test); (with_reducible apply DL.r_bin); (with_reducible apply DL.r_callR); (with_reducible apply DL.a_val); (with_reducible exact DL.r_c); rfl; (with_reducible exact DL.a_nil); walk_at "ecall"; walk_at "ecall"; rfl; rfl; walk_at "ecall"; (with_reducible apply DL.set_goal; walk_at "nrm"); (with_reducible exact DL.r_c); rfl; rfl; walk_at "ecall"; (with_reducible apply DL.p_t; walk_at "etest"); rfl; (with_reducible exact DL.k_rt))
    all_goals rfl
  · have hq : fEq (.int v) (.int 0) = some (.fz (.bool false)) := by
      rw [f_eq rfl rfl]
      show some (Vl.fz (.bool (decide (v = 0)))) = _
      rw [decide_eq_false hv]
    refine ⟨false, r2, ?_, h2⟩
    rw [dr_succ]
    apply run_rt rfl
    · walk_at "nrm"
    · unfold sd__law_dressed
      ((with_reducible apply DL.s_seqG); (with_reducible apply DL.s_if); (with_reducible apply DL.r_test); (with_reducible apply DL.r_un); rfl; rfl; rfl; (with_reducible apply DL.p_t; walk_at "etest"); (with_reducible apply DL.s_seqG); (with_reducible apply DL.s_asg); (with_reducible apply DL.r_lc); (with_reducible apply DL.i_it); rfl; rfl; rfl; walk_at "ecall"; walk_at "ecall"; rfl; (with_reducible apply DL.k_nx); (with_reducible apply DL.s_ret); (with_reducible apply DL.r_if); (with_reducible apply DL.r_test); (with_reducible apply DL.r_bin); (with_reducible apply DL.r_callR); (with_reducible apply DL.a_val); (with_reducible exact DL.r_c); rfl; (with_reducible exact DL.a_nil); walk_at "ecall"; walk_at "ecall"; rfl; rfl; walk_at "ecall"; (with_reducible apply DL.set_goal; walk_at "nrm"); (with_reducible exact DL.r_c); rfl; rfl; walk_at "ecall"; (with_reducible apply DL.p_f; walk_at "etest"); (with_reducible apply DL.r_un); rfl; rfl; rfl; (with_reducible exact DL.k_rt))
    all_goals rfl
theorem dr_turn {n : Nat} {r r1 : Rl} {ds : List D} {d y : D} {z : Vl} (e : d__law_dressed n [.arg (.lst (encR r)), .fz d] = .ok z [.arg (.lst (encR r1)), .no]) (hk : ∀ δ, kp z δ = .ok y δ) :
    turnL [3] (gN 3) dYes (dCall (d__law_dressed n) (aRef 0 (aVal (dVar 3) aNil))) d [.arg (.lst (encR r)), .fz (.tuple ds), .no, .no] = .ok (some y) [.arg (.lst (encR r1)), .fz (.tuple ds), .no, .no] := by
  apply turn_s
  · walk_at "nrm"
  · ((with_reducible apply DL.g_n); rfl)
  · ((with_reducible apply DL.r_callR); (with_reducible apply DL.a_val); rfl; rfl; (with_reducible exact DL.a_nil); rfl; rfl; rfl; rfl; walk_at "ecall"; (with_reducible apply DL.set_goal; walk_at "nrm"))
  · exact hk _
  · rfl
theorem kp_fz (d : D) (δ : DS) : kp (.fz d) δ = .ok d δ := rfl
theorem kp_sq (c : Bool) (ds : List D) (δ : DS) : kp (vsq c ds) δ = .ok (sq c ds) δ := by cases c <;> rfl
def Dr (n : Nat) : Prop := ∀ (d : D) (b : Nat) (r : Rl), dpT d ≤ n → okT d = true → wt d ≤ 100000 → RlOk b r → b + wt d / 40 ≤ 900000 →
  ∃ (z : Vl) (T : D) (r' : Rl), d__law_dressed (n + 1) [.arg (.lst (encR r)), .fz d] = .ok z [.arg (.lst (encR r')), .no] ∧ ((∃ es, z = .own (.lst es) ∧ T = .list es) ∨ z = .fz T) ∧ okT T = true ∧ wt T = wt d ∧ dpT T = dpT d ∧ RlOk (b + wt d / 40) r'
theorem kp_dr {z : Vl} {T : D} (h : (∃ es, z = .own (.lst es) ∧ T = .list es) ∨ z = .fz T) (δ : DS) : kp z δ = .ok T δ := by
  rcases h with ⟨es, rfl, rfl⟩ | rfl <;> rfl
theorem dr_comp {n : Nat} (IH : Dr n) (DS0 : List D) : ∀ (ds : List D) (b : Nat) (r : Rl), dpA ds ≤ n → okTA ds = true → wtA ds ≤ 100000 → RlOk b r → b + wtA ds / 40 ≤ 900000 →
    ∃ (Ts : List D) (r' : Rl), compL (turnL [3] (gN 3) dYes (dCall (d__law_dressed (n + 1)) (aRef 0 (aVal (dVar 3) aNil)))) ds [.arg (.lst (encR r)), .fz (.tuple DS0), .no, .no] = .ok Ts [.arg (.lst (encR r')), .fz (.tuple DS0), .no, .no] ∧ okTA Ts = true ∧ wtA Ts = wtA ds ∧ dpA Ts = dpA ds ∧ RlOk (b + wtA ds / 40) r'
  | [], b, r, _, _, _, h, _ => ⟨[], r, rfl, rfl, rfl, rfl, h.mono (Nat.le_add_right _ _)⟩
  | d :: ds, b, r, hp, ho, hw, h, hb => by
    have ho := okTA_cons.mp ho
    have hwc : wtA (d :: ds) = wt d + wtA ds := by rw [wtA]
    have hp1 := dpA_mem (ds := d :: ds) List.mem_cons_self
    have hp2 : dpA ds ≤ dpA (d :: ds) := dpA_le fun x hx => dpA_mem (List.mem_cons_of_mem _ hx)
    obtain ⟨z, T, r1, e1, hz, o1, w1, p1, h1⟩ := IH d b r (by omega) ho.1 (by omega) h (by omega)
    obtain ⟨Ts, r2, e2, o2, w2, p2, h2⟩ := dr_comp IH DS0 ds (b + wt d / 40) r1 (by omega) ho.2 (by omega) h1 (by omega)
    refine ⟨T :: Ts, r2, ?_, okTA_cons.mpr ⟨o1, o2⟩, by rw [wtA, hwc, w1, w2], ?_, h2.mono (by omega)⟩
    · have t := dr_turn (ds := DS0) e1 (kp_dr hz)
      unfold compL
      rw [t]
      simp only
      rw [e2]
      rfl
    · show PyData.depthAll (unD T :: unA Ts) = PyData.depthAll (unD d :: unA ds)
      rw [PyData.depthAll, PyData.depthAll, show (unD T).depth = (unD d).depth from p1, show PyData.depthAll (unA Ts) = PyData.depthAll (unA ds) from p2]
theorem dr_any : ∀ n : Nat, Dr n := fun n => by
  induction n with
  | zero =>
    intro d b r hp ho hw h hb
    have nt : fIsi "tuple" d = some (.fz (.bool false)) := by
      cases d with
      | tuple ds => have := dp_row false ds; exact absurd hp (by show ¬ (dpT (sq false ds) ≤ 0); omega)
      | dict kvs => have e := isE0_eq (show isE0 kvs = true from ho); subst e; rfl
      | _ => rfl
    exact ⟨_, d, r, dr_keep 0 r nt, .inr rfl, ho, rfl, rfl, h.mono (Nat.le_add_right _ _)⟩
  | succ n IH =>
    intro d b r hp ho hw h hb
    cases d with
    | tuple ds =>
      have e1 := dp_row false ds
      have e2 := wt_row false ds
      have e3 := okT_row false ds
      simp only [sq] at e1 e2 e3
      have hl := wtA_len ds
      obtain ⟨Ts, r1, c, o1, w1, p1, h1⟩ := dr_comp IH ds ds b r (by omega) (by rw [← e3]; exact ho) (by omega) h (by omega)
      obtain ⟨k, r2, e, h2⟩ := dr_row (n + 1) (small_of (by omega)) h1 (by omega) c
      have f1 := dp_row k Ts
      have f2 := wt_row k Ts
      have f3 := okT_row k Ts
      refine ⟨_, sq k Ts, r2, e, ?_, by rw [f3]; exact o1, by omega, by omega, h2.mono (by omega)⟩
      cases k
      · exact .inr rfl
      · exact .inl ⟨Ts, rfl, rfl⟩
    | dict kvs =>
      have e := isE0_eq (show isE0 kvs = true from ho)
      subst e
      exact ⟨_, _, r, dr_keep (n + 1) r rfl, .inr rfl, ho, rfl, rfl, h.mono (Nat.le_add_right _ _)⟩
    | list ds => exact ⟨_, _, r, dr_keep (n + 1) r rfl, .inr rfl, ho, rfl, rfl, h.mono (Nat.le_add_right _ _)⟩
    | none => exact ⟨_, _, r, dr_keep (n + 1) r rfl, .inr rfl, ho, rfl, rfl, h.mono (Nat.le_add_right _ _)⟩
    | bool _ => exact ⟨_, _, r, dr_keep (n + 1) r rfl, .inr rfl, ho, rfl, rfl, h.mono (Nat.le_add_right _ _)⟩
    | int _ => exact ⟨_, _, r, dr_keep (n + 1) r rfl, .inr rfl, ho, rfl, rfl, h.mono (Nat.le_add_right _ _)⟩
    | str _ => exact ⟨_, _, r, dr_keep (n + 1) r rfl, .inr rfl, ho, rfl, rfl, h.mono (Nat.le_add_right _ _)⟩

/-! ### texts joined and split -/
theorem join_cat (s x y : Str) (r : List Str) : s.join (x :: y :: r) = x ++ s ++ s.join (y :: r) := rfl
theorem tl_cat (x y : Str) : (x ++ y).cps.toList = x.cps.toList ++ y.cps.toList := by
  show (x.cps ++ y.cps).toList = _
  rw [Array.toList_append]
theorem ln_cat (x y : Str) : (x ++ y).length = x.length + y.length := by
  show (x.cps ++ y.cps).size = _
  rw [Array.size_append]
  rfl
theorem str_ext {x y : Str} (h : x.cps.toList = y.cps.toList) : x = y := by
  cases x
  cases y
  congr 1
  exact Array.ext' h
theorem first_cut {c : Nat} : ∀ {a b r t : List Nat}, ¬c ∈ a → ¬c ∈ b → a ++ c :: r = b ++ c :: t → a = b ∧ r = t
  | [], [], _, _, _, _, h => ⟨rfl, (List.cons.inj h).2⟩
  | [], y :: b, _, _, _, hb, h => by
    have := (List.cons.inj h).1
    subst this
    exact absurd List.mem_cons_self hb
  | x :: a, [], _, _, ha, _, h => by
    have := (List.cons.inj h).1
    subst this
    exact absurd List.mem_cons_self ha
  | x :: a, y :: b, r, t, ha, hb, h => by
    obtain ⟨h1, h2⟩ := List.cons.inj h
    subst h1
    obtain ⟨e1, e2⟩ := first_cut (fun z => ha (List.mem_cons_of_mem _ z)) (fun z => hb (List.mem_cons_of_mem _ z)) h2
    exact ⟨by rw [e1], e2⟩
theorem join_inj {c : Nat} : ∀ {xs ys : List Str}, xs ≠ [] → ys ≠ [] → (∀ x ∈ xs, ¬c ∈ x.cps.toList) → (∀ y ∈ ys, ¬c ∈ y.cps.toList) → (Str.mk #[c]).join xs = (Str.mk #[c]).join ys → xs = ys
  | [], _, h, _, _, _, _ => absurd rfl h
  | _ :: _, [], _, h, _, _, _ => absurd rfl h
  | [x], [y], _, _, _, _, h => by
    have h : x = y := h
    rw [h]
  | [x], y :: z :: r, _, _, hx, _, h => by
    have h : x = y ++ ⟨#[c]⟩ ++ (Str.mk #[c]).join (z :: r) := h
    have := hx x List.mem_cons_self
    rw [h, tl_cat, tl_cat] at this
    exact absurd (by simp) this
  | x :: z :: r, [y], _, _, _, hy, h => by
    have h : x ++ ⟨#[c]⟩ ++ (Str.mk #[c]).join (z :: r) = y := h
    have := hy y List.mem_cons_self
    rw [← h, tl_cat, tl_cat] at this
    exact absurd (by simp) this
  | x :: a :: r, y :: b :: t, _, _, hx, hy, h => by
    have h : x ++ ⟨#[c]⟩ ++ (Str.mk #[c]).join (a :: r) = y ++ ⟨#[c]⟩ ++ (Str.mk #[c]).join (b :: t) := h
    have h := congrArg (fun z : Str => z.cps.toList) h
    simp only [tl_cat] at h
    rw [List.append_assoc, List.append_assoc] at h
    obtain ⟨e1, e2⟩ := first_cut (hx x List.mem_cons_self) (hy y List.mem_cons_self) (show x.cps.toList ++ c :: _ = y.cps.toList ++ c :: _ from h)
    rw [str_ext e1, join_inj (List.cons_ne_nil _ _) (List.cons_ne_nil _ _) (fun z hz => hx z (List.mem_cons_of_mem _ hz)) (fun z hz => hy z (List.mem_cons_of_mem _ hz)) (str_ext e2)]
theorem split_ne (x y : Str) : Txt.split x y ≠ [] := by
  intro h
  have := PyProof.Rows.len_of_split (l := []) (x := x) (y := y) h.symm
  exact absurd this (by decide)
theorem split_join {c : Nat} {ys : List Str} (hn : ys ≠ []) (h : ∀ y ∈ ys, ¬c ∈ y.cps.toList) : Txt.split ((Str.mk #[c]).join ys) ⟨#[c]⟩ = ys :=
  join_inj (split_ne _ _) hn (fun x hx => StrLaws.split_free _ _ x hx) h (StrLaws.join_split _ _)
theorem len_join {c k : Nat} : ∀ {ys : List Str}, (∀ y ∈ ys, y.length ≤ k) → ((Str.mk #[c]).join ys).length ≤ (k + 1) * ys.length
  | [], _ => Nat.zero_le _
  | [y], h => by
    show y.length ≤ (k + 1) * 1
    have := h y List.mem_cons_self
    omega
  | x :: y :: r, h => by
    rw [join_cat, ln_cat, ln_cat]
    have h1 := h x List.mem_cons_self
    have h2 := len_join (c := c) (ys := y :: r) fun z hz => h z (List.mem_cons_of_mem _ hz)
    rw [List.length_cons, Nat.mul_add]
    show x.length + 1 + _ ≤ _
    omega
theorem asc_join {c : Nat} (hc : c < 128) : ∀ {ys : List Str}, (∀ y ∈ ys, ∀ a ∈ y.cps.toList, a < 128) → ∀ a ∈ ((Str.mk #[c]).join ys).cps.toList, a < 128
  | [], _, _, h => nomatch h
  | [y], hy, a, h => hy y List.mem_cons_self a h
  | x :: y :: r, hy, a, h => by
    rw [join_cat, tl_cat, tl_cat] at h
    rcases List.mem_append.mp h with h | h
    · rcases List.mem_append.mp h with h | h
      · exact hy x List.mem_cons_self a h
      · have : a = c := by simpa using h
        omega
    · exact asc_join hc (ys := y :: r) (fun z hz => hy z (List.mem_cons_of_mem _ hz)) a h
theorem sum_len {k : Nat} : ∀ {ys : List Str}, (∀ y ∈ ys, y.length ≤ k) → (ys.map (·.length)).sum ≤ k * ys.length
  | [], _ => Nat.zero_le _
  | y :: ys, h => by
    have h1 := h y List.mem_cons_self
    have h2 := sum_len (ys := ys) fun z hz => h z (List.mem_cons_of_mem _ hz)
    rw [List.map_cons, List.sum_cons, List.length_cons, Nat.mul_add]
    omega
/-! ### numbers and words -/
abbrev nmS (n : Nat) : Str := Str.ofString (toString ((n : Nat) : Int))
theorem nm_tl (n : Nat) : (nmS n).cps.toList = TL.numL n := TL.tl_num n
theorem nm_head : ∀ n : Nat, 0 < n → ∃ c r, TL.numL n = c :: r ∧ c ≠ 48 := by
  intro n
  induction n using Nat.strongRecOn with
  | _ n ih =>
    intro h
    by_cases z : n < 10
    · exact ⟨48 + n, [], TL.numL_lt z, by omega⟩
    · obtain ⟨c, r, e, ne⟩ := ih (n / 10) (by omega) (by omega)
      refine ⟨c, r ++ [48 + n % 10], ?_, ne⟩
      rw [TL.numL_step (by omega), e]
      rfl
theorem nm_asc (n : Nat) : ∀ a ∈ (nmS n).cps.toList, 48 ≤ a ∧ a ≤ 57 := by
  rw [nm_tl]
  exact TL.numL_digits n
theorem nm_len {n : Nat} (h : n < 10 ^ 30) : (nmS n).length ≤ 30 := by
  show (nmS n).cps.size ≤ 30
  rw [← Array.length_toList, nm_tl]
  exact TL.numL_len (by decide) h
theorem nm_log {n : Nat} (h : n < 10 ^ 30) : ((n : Nat) : Int).natAbs.log2 < 1900 := by
  show n.log2 < 1900
  by_cases z : n = 0
  · rw [z]
    decide
  · rw [Nat.log2_lt z]
    exact Nat.lt_trans h (by decide +kernel)

/-! ### words of ends -/
abbrev Ed := Nat × Bool
def sg : Bool → Nat
  | true => 43
  | false => 45
def sd : Bool → Int
  | true => 0
  | false => 1
abbrev sgS (b : Bool) : Str := ⟨#[sg b]⟩
def wd (e : Ed) : Str := nmS e.1 ++ sgS e.2
abbrev Ok1 (e : Ed) : Prop := e.1 < 10 ^ 30
theorem wd_tl (e : Ed) : (wd e).cps.toList = TL.numL e.1 ++ [sg e.2] := by
  unfold wd
  rw [tl_cat, nm_tl]
theorem wd_asc (e : Ed) : ∀ a ∈ (wd e).cps.toList, a < 128 ∧ a ≠ 32 := by
  intro a ha
  rw [wd_tl] at ha
  rcases List.mem_append.mp ha with h | h
  · have := TL.numL_digits e.1 a h
    omega
  · have h : a = sg e.2 := by simpa using h
    subst h
    cases e.2 <;> decide
theorem wd_free (e : Ed) : ¬32 ∈ (wd e).cps.toList := fun h => (wd_asc e 32 h).2 rfl
theorem wd_len (e : Ed) : (wd e).length = (nmS e.1).length + 1 := by
  unfold wd
  rw [ln_cat]
  rfl
theorem nm_pos (n : Nat) : 0 < (nmS n).length := by
  show 0 < (nmS n).cps.size
  rw [← Array.length_toList, nm_tl]
  exact List.length_pos_iff.mpr (TL.numL_ne n)
theorem wd_31 {e : Ed} (h : Ok1 e) : (wd e).length ≤ 31 := by
  rw [wd_len]
  have := nm_len h
  omega
theorem wd_last (e : Ed) : cutS (wd e) (some (-1)) none = sgS e.2 := by
  unfold cutS
  have h1 : HT.sIx (wd e).length 0 (some (-1)) = (nmS e.1).length := by
    show ((-1 : Int) + ((wd e).length : Nat)).toNat = _
    rw [wd_len]
    omega
  rw [h1]
  show Str.mk (List.take ((wd e).length - _) _).toArray = _
  have h2 : (nmS e.1).length = (TL.numL e.1).length := by
    show (nmS e.1).cps.size = _
    rw [← Array.length_toList, nm_tl]
  rw [wd_len, wd_tl, h2, List.drop_left]
  simp
theorem wd_front (e : Ed) : cutS (wd e) none (some (-1)) = nmS e.1 := by
  unfold cutS
  have h1 : HT.sIx (wd e).length (wd e).length (some (-1)) = (nmS e.1).length := by
    show ((-1 : Int) + ((wd e).length : Nat)).toNat = _
    rw [wd_len]
    omega
  rw [h1]
  show Str.mk (List.take ((nmS e.1).length - 0) (List.drop 0 (wd e).cps.toList)).toArray = _
  have h2 : (nmS e.1).length = (TL.numL e.1).length := by
    show (nmS e.1).cps.size = _
    rw [← Array.length_toList, nm_tl]
  apply str_ext
  rw [wd_tl, h2, nm_tl]
  simp
theorem wd_ends (e : Ed) : Txt.endswith (wd e) ("+" : PySem.Str) = e.2 := by
  unfold wd
  rw [PySem.W.KAf.ends_right (by show 1 ≤ 1; decide)]
  cases e.2 <;> decide +kernel
theorem in_sg (b : Bool) : inV (.str (sgS b)) ([("+" : PySem.Str), ("-" : PySem.Str)].map V.str) = true := by cases b <;> decide +kernel
theorem nm_ascii (n : Nat) : Txt.isascii (nmS n) = true := by
  unfold Txt.isascii
  rw [← Array.all_toList, List.all_eq_true]
  intro a ha
  have := nm_asc n a ha
  exact decide_eq_true (by omega)
theorem dig_all : ∀ a : Nat, 48 ≤ a → a ≤ 57 → Unicode.isDigit a = true := by
  intro a h1 h2
  have h : [48,49,50,51,52,53,54,55,56,57].all Unicode.isDigit = true := by decide +kernel
  have := List.all_eq_true.mp h a (by simp only [List.mem_cons, List.not_mem_nil, or_false]; omega)
  exact this
theorem nm_digit (n : Nat) : Txt.isdigit (nmS n) = true := by
  unfold Txt.isdigit
  rw [decide_eq_true (nm_pos n), Bool.true_and, ← Array.all_toList, List.all_eq_true]
  intro a ha
  have := nm_asc n a ha
  exact dig_all a this.1 this.2
theorem nm_start {n : Nat} (h : 0 < n) : Txt.startswith (nmS n) ("0" : PySem.Str) = false := by
  obtain ⟨c, r, e, ne⟩ := nm_head n h
  unfold Txt.startswith
  rw [StrLaws.subAt_eq, nm_tl, e]
  show (_ && (List.take 1 (List.drop 0 (c :: r)) == [48])) = false
  rw [show List.take 1 (List.drop 0 (c :: r)) = [c] from rfl, show ([c] == [48]) = false from by simpa using ne, Bool.and_false]
theorem nm_zero {n : Nat} : (nmS n = ("0" : PySem.Str)) ↔ n = 0 := by
  constructor
  · intro h
    by_cases z : 0 < n
    · obtain ⟨c, r, e, ne⟩ := nm_head n z
      have h : (nmS n).cps.toList = ("0" : PySem.Str).cps.toList := congrArg (fun z : Str => z.cps.toList) h
      rw [nm_tl, e] at h
      have h : c :: r = [48] := h
      exact absurd (List.cons.inj h).1 ne
    · omega
  · intro h
    subst h
    decide +kernel
theorem nm_int {n : Nat} (h : n < 10 ^ 30) : intText? (nmS n) = some (n : Int) := TL.int_num (by
  have := nm_len h
  have e : (nmS n).length = (TL.numL n).length := by
    show (nmS n).cps.size = _
    rw [← Array.length_toList, nm_tl]
  omega)
/-! ### shapes -/
theorem ok_txt {x : Str} (h : ∀ a ∈ x.cps.toList, a < 128) : SeqAt.shaped (.str x) = true := by
  unfold SeqAt.shaped
  have e : PyData.canLay0 (.str x) = true := by
    show PyData.strOk x = true
    unfold PyData.strOk
    rw [← Array.all_toList, List.all_eq_true]
    intro a ha
    have := h a ha
    exact decide_eq_true (by omega)
  rw [e]
  rfl
theorem nm_sh (n : Nat) : SeqAt.shaped (.str (nmS n)) = true := ok_txt fun a h => by
  have := nm_asc n a h
  omega
theorem wd_sh (e : Ed) : SeqAt.shaped (.str (wd e)) = true := ok_txt fun a h => (wd_asc e a h).1
/-! ### the text of many -/
def tx (es : List Ed) : Str := (Str.mk #[32]).join (es.map wd)
theorem tx_join (es : List Ed) : Txt.join (" " : PySem.Str) (es.map wd) = tx es := StrLaws.glued_eq_join _ _
theorem tx_len {es : List Ed} (h : ∀ e ∈ es, Ok1 e) : (tx es).length ≤ 32 * es.length := by
  have := len_join (c := 32) (k := 31) (ys := es.map wd) fun y hy => by
    obtain ⟨e, he, rfl⟩ := List.mem_map.mp hy
    exact wd_31 (h e he)
  rw [List.length_map] at this
  exact this
theorem tx_asc (es : List Ed) : ∀ a ∈ (tx es).cps.toList, a < 128 := asc_join (by decide) fun y hy => by
  obtain ⟨e, he, rfl⟩ := List.mem_map.mp hy
  exact fun a h => (wd_asc e a h).1
theorem tx_sh (es : List Ed) : SeqAt.shaped (.str (tx es)) = true := ok_txt (tx_asc es)
theorem tx_split {es : List Ed} (h : es ≠ []) : Txt.split (tx es) (" " : PySem.Str) = es.map wd := split_join (by simpa using h) fun y hy => by
  obtain ⟨e, he, rfl⟩ := List.mem_map.mp hy
  exact wd_free e
theorem tx_nil {es : List Ed} : tx es = ("" : PySem.Str) ↔ es = [] := by
  constructor
  · intro h
    cases es with
    | nil => rfl
    | cons e es =>
      have h2 := tx_split (es := e :: es) (by simp)
      rw [h] at h2
      have h3 : Txt.split ("" : PySem.Str) (" " : PySem.Str) = [("" : PySem.Str)] := by decide +kernel
      rw [h3] at h2
      have h4 : ("" : PySem.Str) = wd e := (List.cons.inj h2).1
      have h5 := wd_len e
      rw [← h4] at h5
      have h6 : (0 : Nat) = (nmS e.1).length + 1 := h5
      omega
  · intro h
    subst h
    rfl
theorem tx_sum {es : List Ed} (h : ∀ e ∈ es, Ok1 e) : ((es.map wd).map (·.length)).sum + (es.map wd).length * 1 ≤ 32 * es.length := by
  have := sum_len (k := 31) (ys := es.map wd) fun y hy => by
    obtain ⟨e, he, rfl⟩ := List.mem_map.mp hy
    exact wd_31 (h e he)
  rw [List.length_map] at this ⊢
  omega

/-! ### the program's words -/
abbrev encX (b : Bool) (e : Ed) : D := sq b [.int (e.1 : Nat), .int (sd e.2)]
theorem eqv_str (x y : Str) : (PyData.str x).eqv (.str y) = decide (x = y) := by
  show (x == y) = _
  by_cases h : x = y
  · subst h
    rw [decide_eq_true rfl]
    exact beq_self_eq_true x
  · rw [decide_eq_false h]
    exact beq_false_of_ne h
theorem z_sl0 {e : Ed} (h : Ok1 e) : fSl (.str (wd e)) (some (-1)) none = some (.fz (.str (sgS e.2))) := by
  show (match small (wd e).length with | true => some (Vl.fz (.str (cutS (wd e) (some (-1)) none))) | false => none) = _
  rw [small_of (by have := wd_31 h; omega), wd_last]
theorem z_sl1 {e : Ed} (h : Ok1 e) : fSl (.str (wd e)) none (some (-1)) = some (.fz (.str (nmS e.1))) := by
  show (match small (wd e).length with | true => some (Vl.fz (.str (cutS (wd e) none (some (-1))))) | false => none) = _
  rw [small_of (by have := wd_31 h; omega), wd_front]
theorem z_neg : fNeg (.int 1) = some (.fz (.int (-1))) := rfl
theorem e_is_number (n : Nat) : d_is_number [.fz (.str (nmS n))] = .ok (.fz (.bool true)) [.no] := by
  have h0 : fEq (.str (nmS n)) (.str ("0" : PySem.Str)) = some (.fz (.bool (decide (n = 0)))) := by
    rw [f_eq (nm_sh n) (by decide +kernel), eqv_str]
    congr 3
    exact decide_eq_decide.mpr nm_zero
  have h1 : fTxt Txt.isascii (.str (nmS n)) = some (.fz (.bool true)) := by
    show some (Vl.fz (.bool (Txt.isascii (nmS n)))) = _
    rw [nm_ascii]
  have h2 : fTxt Txt.isdigit (.str (nmS n)) = some (.fz (.bool true)) := by
    show some (Vl.fz (.bool (Txt.isdigit (nmS n)))) = _
    rw [nm_digit]
  by_cases z : n = 0
  · rw [decide_eq_true z] at h0
    try unfold d_is_number
    apply run_v rfl
    · walk_at "nrm"
    · unfold sd_is_number
      apply s_ret
      apply r_orV (k := true)
      · ((with_reducible apply DL.r_bin); rfl; (with_reducible exact DL.r_c); rfl; rfl; walk_at "ecall")
      · apply p_t rfl
        rfl
    all_goals rfl
  · rw [decide_eq_false z] at h0
    have h3 : fTxt (fun x => Txt.startswith x ("0" : PySem.Str)) (.str (nmS n)) = some (.fz (.bool false)) := by
      show some (Vl.fz (.bool (Txt.startswith (nmS n) ("0" : PySem.Str)))) = _
      rw [nm_start (by omega)]
    try unfold d_is_number
    apply run_v rfl
    · walk_at "nrm"
    · unfold sd_is_number
      apply s_ret
      apply r_orV (k := false)
      · ((with_reducible apply DL.r_bin); rfl; (with_reducible exact DL.r_c); rfl; rfl; walk_at "ecall")
      · apply p_f rfl
        apply r_andV (k := true)
        · ((with_reducible apply DL.r_un); rfl; rfl; walk_at "ecall")
        · apply p_t rfl
          apply r_andV (k := true)
          · ((with_reducible apply DL.r_un); rfl; rfl; walk_at "ecall")
          · apply p_t rfl
            apply r_notV (k := false)
            ((with_reducible apply DL.r_un); rfl; rfl; walk_at "ecall")
    all_goals rfl
theorem e_is_end_word {e : Ed} (h : Ok1 e) : d_is_end_word [.fz (.str (wd e))] = .ok (.fz (.bool true)) [.no] := by
  have h1 := z_sl0 h
  have h2 := z_sl1 h
  have h3 := e_is_number e.1
  have h4 : fInTS (.str (sgS e.2)) (.tuple [.str ("+" : PySem.Str), .str ("-" : PySem.Str)]) = some (.fz (.bool true)) := by
    show (match strsOf ([("+" : PySem.Str), ("-" : PySem.Str)].map PyData.str) with
      | some ys => some (Vl.fz (.bool (inV (.str (sgS e.2)) (ys.map V.str))))
      | none => none) = _
    rw [strsOf_map]
    show some (Vl.fz (.bool (inV (.str (sgS e.2)) ([("+" : PySem.Str), ("-" : PySem.Str)].map V.str)))) = _
    rw [in_sg]
  have h5 := z_neg
  try unfold d_is_end_word
  apply run_v rfl
  · walk_at "nrm"
  · unfold sd_is_end_word
    apply s_ret
    apply r_andV (k := true)
    · ((with_reducible apply DL.r_bin); (with_reducible apply DL.r_sl); rfl; (with_reducible apply DL.o_some); (with_reducible apply DL.r_un); (with_reducible exact DL.r_c); rfl; walk_at "ecall"; (with_reducible exact DL.o_none); rfl; walk_at "ecall"; (with_reducible apply DL.r_tup); (with_reducible apply DL.l_cons); (with_reducible exact DL.r_c); rfl; (with_reducible apply DL.l_cons); (with_reducible exact DL.r_c); rfl; (with_reducible exact DL.l_nil); (with_reducible apply DL.small_of; focus (first | omega | (simp <;> omega))); rfl; rfl; walk_at "ecall")
    · apply p_t rfl
      ((with_reducible apply DL.r_call); (with_reducible apply DL.a_val); (with_reducible apply DL.r_sl); rfl; (with_reducible exact DL.o_none); (with_reducible apply DL.o_some); (with_reducible apply DL.r_un); (with_reducible exact DL.r_c); rfl; walk_at "ecall"; rfl; walk_at "ecall"; rfl; (with_reducible exact DL.a_nil); rfl; rfl; walk_at "ecall")
  all_goals rfl
theorem z_fmt {n : Nat} (h : n < 10 ^ 30) {t : Str} (ht : t.length ≤ 10) : fFmt t (.int (n : Nat)) = some (.fz (.str (nmS n ++ t))) := by
  show okO (decide (((n : Nat) : Int).natAbs.log2 < 1900 ∧ (nmS n).length + t.length ≤ 100000)) (some (Vl.fz (.str (nmS n ++ t)))) = _
  rw [decide_eq_true ⟨nm_log h, by have := nm_len h; omega⟩]
  rfl
theorem e_end_word {e : Ed} (h : Ok1 e) (b : Bool) : d_end_word [.fz (encX b e)] = .ok (.fz (.str (wd e))) [.no] := by
  obtain ⟨n, s⟩ := e
  have h : n < 10 ^ 30 := h
  have h1 := z_fmt h (t := ("+" : PySem.Str)) (by decide)
  have h2 := z_fmt h (t := ("-" : PySem.Str)) (by decide)
  have q0 : PyData.eqv (.int 1) (.int 0) = false := by decide +kernel
  have q1 : PyData.eqv (.int 0) (.int 0) = true := by decide +kernel
  cases s
  · show d_end_word [.fz (sq b [.int (n : Nat), .int 1])] = R.ok (Vl.fz (.str (nmS n ++ ("-" : PySem.Str)))) _
    cases b
    all_goals
      try unfold d_end_word
      apply run_v rfl
      · walk_at "nrm"
      · unfold sd_end_word
        (first | ((with_reducible apply DL.s_seqG); (with_reducible apply DL.s_asgG); rfl; rfl; (with_reducible apply DL.g_tup); walk_at "ecall"; (with_reducible apply DL.g_cons); (with_reducible apply DL.g_n); rfl; (with_reducible apply DL.g_cons); (with_reducible apply DL.g_n); rfl; (with_reducible exact DL.g_nil); (with_reducible apply DL.k_nx); (with_reducible apply DL.s_ret); (with_reducible apply DL.r_if); (with_reducible apply DL.r_test); (with_reducible apply DL.r_bin); rfl; (with_reducible exact DL.r_c); rfl; rfl; rfl; (with_reducible apply DL.p_f; walk_at "etest"); (with_reducible apply DL.r_un); rfl; rfl; walk_at "ecall") | ((with_reducible apply DL.s_seqG); (with_reducible apply DL.s_asgG); rfl; rfl; (with_reducible apply DL.g_lst); walk_at "ecall"; (with_reducible apply DL.g_cons); (with_reducible apply DL.g_n); rfl; (with_reducible apply DL.g_cons); (with_reducible apply DL.g_n); rfl; (with_reducible exact DL.g_nil); (with_reducible apply DL.k_nx); (with_reducible apply DL.s_ret); (with_reducible apply DL.r_if); (with_reducible apply DL.r_test); (with_reducible apply DL.r_bin); rfl; (with_reducible exact DL.r_c); rfl; rfl; rfl; (with_reducible apply DL.p_f; walk_at "etest"); (with_reducible apply DL.r_un); rfl; rfl; walk_at "ecall"))
      all_goals rfl
  · show d_end_word [.fz (sq b [.int (n : Nat), .int 0])] = R.ok (Vl.fz (.str (nmS n ++ ("+" : PySem.Str)))) _
    cases b
    all_goals
      try unfold d_end_word
      apply run_v rfl
      · walk_at "nrm"
      · unfold sd_end_word
        (first | ((with_reducible apply DL.s_seqG); (with_reducible apply DL.s_asgG); rfl; rfl; (with_reducible apply DL.g_lst); walk_at "ecall"; (with_reducible apply DL.g_cons); (with_reducible apply DL.g_n); rfl; (with_reducible apply DL.g_cons); (with_reducible apply DL.g_n); rfl; (with_reducible exact DL.g_nil); (with_reducible apply DL.k_nx); (with_reducible apply DL.s_ret); (with_reducible apply DL.r_if); (with_reducible apply DL.r_test); (with_reducible apply DL.r_bin); rfl; (with_reducible exact DL.r_c); rfl; rfl; rfl; (with_reducible apply DL.p_t; walk_at "etest"); (with_reducible apply DL.r_un); rfl; rfl; walk_at "ecall") | ((with_reducible apply DL.s_seqG); (with_reducible apply DL.s_asgG); rfl; rfl; (with_reducible apply DL.g_tup); walk_at "ecall"; (with_reducible apply DL.g_cons); (with_reducible apply DL.g_n); rfl; (with_reducible apply DL.g_cons); (with_reducible apply DL.g_n); rfl; (with_reducible exact DL.g_nil); (with_reducible apply DL.k_nx); (with_reducible apply DL.s_ret); (with_reducible apply DL.r_if); (with_reducible apply DL.r_test); (with_reducible apply DL.r_bin); rfl; (with_reducible exact DL.r_c); rfl; rfl; rfl; (with_reducible apply DL.p_t; walk_at "etest"); (with_reducible apply DL.r_un); rfl; rfl; walk_at "ecall"))
      all_goals rfl
theorem e_end_meant {e : Ed} (h : Ok1 e) : d_end_meant [.fz (.str (wd e))] = .ok (.fz (encX false e)) [.no] := by
  have h1 := z_sl1 h
  have h5 := z_neg
  have h2 : fIntS (.str (nmS e.1)) = some (.fz (.int (e.1 : Nat))) := by
    show (match intText? (nmS e.1) with
      | some n => okO (decide ((nmS e.1).length ≤ 640)) (some (Vl.fz (.int n)))
      | none => none) = _
    rw [nm_int h]
    show okO (decide ((nmS e.1).length ≤ 640)) (some (Vl.fz (.int _))) = _
    rw [decide_eq_true (by have := nm_len h; omega)]
    rfl
  have h3 : fTxt (fun x => Txt.endswith x ("+" : PySem.Str)) (.str (wd e)) = some (.fz (.bool e.2)) := by
    show some (Vl.fz (.bool (Txt.endswith (wd e) ("+" : PySem.Str)))) = _
    rw [wd_ends]
  generalize wd e = W at *
  generalize nmS e.1 = N at *
  obtain ⟨n, s⟩ := e
  cases s
  all_goals
    try unfold d_end_meant
    apply run_v rfl
    · walk_at "nrm"
    · unfold sd_end_meant
      (first | ((with_reducible apply DL.s_ret); (with_reducible apply DL.r_tup); (with_reducible apply DL.l_cons); (with_reducible apply DL.r_un); (with_reducible apply DL.r_sl); rfl; (with_reducible exact DL.o_none); (with_reducible apply DL.o_some); (with_reducible apply DL.r_un); (with_reducible exact DL.r_c); rfl; walk_at "ecall"; rfl; walk_at "ecall"; rfl; walk_at "ecall"; rfl; (with_reducible apply DL.l_cons); (with_reducible apply DL.r_if); (with_reducible apply DL.r_test); (with_reducible apply DL.r_un); rfl; rfl; walk_at "ecall"; (with_reducible apply DL.p_t; walk_at "etest"); (with_reducible exact DL.r_c); rfl; (with_reducible exact DL.l_nil); (with_reducible apply DL.small_of; focus (first | omega | (simp <;> omega)))) | ((with_reducible apply DL.s_ret); (with_reducible apply DL.r_tup); (with_reducible apply DL.l_cons); (with_reducible apply DL.r_un); (with_reducible apply DL.r_sl); rfl; (with_reducible exact DL.o_none); (with_reducible apply DL.o_some); (with_reducible apply DL.r_un); (with_reducible exact DL.r_c); rfl; walk_at "ecall"; rfl; walk_at "ecall"; rfl; walk_at "ecall"; rfl; (with_reducible apply DL.l_cons); (with_reducible apply DL.r_if); (with_reducible apply DL.r_test); (with_reducible apply DL.r_un); rfl; rfl; walk_at "ecall"; (with_reducible apply DL.p_f; walk_at "etest"); (with_reducible exact DL.r_c); rfl; (with_reducible exact DL.l_nil); (with_reducible apply DL.small_of; focus (first | omega | (simp <;> omega)))))
    all_goals rfl

/-! ### texts of rides, and back -/
abbrev encQ' (q : Bool × Ed) : D := encX q.1 q.2
abbrev prs (qs : List (Bool × Ed)) : List Ed := qs.map (·.2)
abbrev sW (es : List Ed) : List D := es.map fun e => PyData.str (wd e)
theorem z_join {es : List Ed} (h : ∀ e ∈ es, Ok1 e) (hl : es.length ≤ 100) : fJoin (" " : PySem.Str) (.list (sW es)) = some (.fz (.str (tx es))) := by
  have e : sW es = (es.map wd).map PyData.str := by
    rw [List.map_map]
    rfl
  rw [e]
  show (match strsOf ((es.map wd).map PyData.str) with
    | some ys => okO (decide ((ys.map (fun y : Str => y.length)).sum + ys.length * 1 ≤ 100000)) (some (Vl.fz (.str (Txt.join (" " : PySem.Str) ys))))
    | none => none) = _
  rw [strsOf_map]
  show okO (decide (((es.map wd).map (fun y : Str => y.length)).sum + (es.map wd).length * 1 ≤ 100000)) (some (Vl.fz (.str (Txt.join (" " : PySem.Str) (es.map wd))))) = _
  rw [tx_join, decide_eq_true (by have := tx_sum h; omega)]
  rfl
theorem e_ride_text (c : Bool) {qs : List (Bool × Ed)} (h : ∀ q ∈ qs, Ok1 q.2) (hl : qs.length ≤ 100) : d_ride_text [.fz (sq c (qs.map encQ'))] = .ok (.fz (.str (tx (prs qs)))) [.no] := by
  have hj := z_join (es := prs qs) (fun e he => by
    obtain ⟨q, hq, rfl⟩ := List.mem_map.mp he
    exact h q hq) (by rw [List.length_map]; exact hl)
  have hs : small (qs.map encQ').length = true := small_of (by rw [List.length_map]; omega)
  have hc : dLc [1] (dIter (dVar 0)) (gN 1) dYes (dCall d_end_word (aVal (dVar 1) aNil)) [.fz (sq c (qs.map encQ')), .no] = .ok (.own (.lst (sW (prs qs)))) [.fz (sq c (qs.map encQ')), .no] := by
    refine r_lc (ds := qs.map encQ') (δ1 := [.fz (sq c (qs.map encQ')), .no]) (by cases c <;> rfl) (by rw [hs]; rfl) ?_
    have e : sW (prs qs) = qs.map fun q => PyData.str (wd q.2) := by
      show (qs.map (·.2)).map _ = _
      rw [List.map_map]
      rfl
    rw [e]
    refine comp_map1 (ψ := fun q : Bool × Ed => PyData.str (wd q.2)) fun q hm => ?_
    have c0 := e_end_word (h q hm) q.1
    show turnL _ _ _ _ (encX q.1 q.2) _ = _
    generalize encX q.1 q.2 = E at *
    generalize sq c (qs.map encQ') = S at *
    apply turn_1 (k := true)
    · walk_at "nrm"
    · ((with_reducible apply DL.g_n); rfl)
    · exact t_yes
    · ((with_reducible apply DL.p_t; walk_at "etest"); (with_reducible apply DL.turn_e); (with_reducible apply DL.r_call); (with_reducible apply DL.a_val); rfl; rfl; (with_reducible exact DL.a_nil); rfl; rfl; walk_at "ecall"; rfl)
    · rfl
  generalize sW (prs qs) = W at *
  try unfold d_ride_text
  apply run_v rfl
  · walk_at "nrm"
  · unfold sd_ride_text
    ((with_reducible apply DL.s_ret); (with_reducible apply DL.r_un); (with_reducible assumption); (with_reducible exact DL.vw_ownE _ _); (with_reducible assumption))
  all_goals rfl
theorem z_split {es : List Ed} (h : ∀ e ∈ es, Ok1 e) (hl : es.length ≤ 100) (hn : es ≠ []) : fSplit (" " : PySem.Str) (.str (tx es)) = some (.own (.lst (sW es))) := by
  have e : sW es = (es.map wd).map PyData.str := by
    rw [List.map_map]
    rfl
  show okO (decide ((tx es).length + 2 ≤ 100000) && !((" " : PySem.Str).length == 0)) (some (Vl.own (.lst ((Txt.split (tx es) (" " : PySem.Str)).map PyData.str)))) = _
  rw [decide_eq_true (by have := tx_len h; omega), tx_split hn, ← e]
  rfl
theorem e_read_ride {es : List Ed} (h : ∀ e ∈ es, Ok1 e) (hl : es.length ≤ 100) : d_read_ride [.fz (.str (tx es))] = .ok (.own (.lst (es.map (encX false)))) [.no] := by
  have hs : small (sW es).length = true := small_of (by rw [List.length_map]; omega)
  have hw : dIf (dTest (dBin fEq (dVar 0) (dC (.str ("" : PySem.Str))))) (dLst dNil) (dUn (fSplit (" " : PySem.Str)) (dVar 0)) [.fz (.str (tx es)), .no, .no] = .ok (.own (.lst (sW es))) [.fz (.str (tx es)), .no, .no] := by
    have h0 : fEq (.str (tx es)) (.str ("" : PySem.Str)) = some (.fz (.bool (decide (es = [])))) := by
      rw [f_eq (tx_sh es) (by decide +kernel), eqv_str]
      congr 3
      exact decide_eq_decide.mpr tx_nil
    by_cases z : es = []
    · rw [decide_eq_true z] at h0
      apply r_if (k := true)
      · apply r_test
        ((with_reducible apply DL.r_bin); rfl; (with_reducible exact DL.r_c); rfl; rfl; walk_at "ecall")
      · apply p_t rfl
        subst z
        rfl
    · rw [decide_eq_false z] at h0
      have h1 := z_split h hl z
      apply r_if (k := false)
      · apply r_test
        ((with_reducible apply DL.r_bin); rfl; (with_reducible exact DL.r_c); rfl; rfl; walk_at "ecall")
      · apply p_f rfl
        ((with_reducible apply DL.r_un); rfl; rfl; walk_at "ecall")
  have ha : dAllG [2] (dIter (dVar 1)) (gN 2) (dCall d_is_end_word (aVal (dVar 2) aNil)) [.fz (.str (tx es)), .own (.lst (sW es)), .no] = .ok (.fz (.bool true)) [.fz (.str (tx es)), .fz (.list (sW es)), .no] := by
    refine r_allG (ds := sW es) (δ1 := [.fz (.str (tx es)), .fz (.list (sW es)), .no]) (by rfl) (by rw [hs]; rfl) ?_
    have e := all_map (f := turnL [2] (gN 2) dYes (dCall d_is_end_word (aVal (dVar 2) aNil))) (δ := [.fz (.str (tx es)), .fz (.list (sW es)), .no]) (enc := fun e : Ed => PyData.str (wd e)) (φ := fun _ => true) (xs := es) fun e hm => ?_
    · rw [e]
      simp
    · have c := e_is_end_word (h e hm)
      generalize sW es = S at *
      generalize tx es = T at *
      show turnL _ _ _ _ (.str (wd e)) _ = _
      generalize wd e = E at *
      apply turn_1 (k := true)
      · walk_at "nrm"
      · ((with_reducible apply DL.g_n); rfl)
      · exact t_yes
      · ((with_reducible apply DL.p_t; walk_at "etest"); (with_reducible apply DL.turn_e); (with_reducible apply DL.r_call); (with_reducible apply DL.a_val); rfl; rfl; (with_reducible exact DL.a_nil); rfl; rfl; walk_at "ecall"; rfl)
      · rfl
  have hc : dLc [2] (dIter (dVar 1)) (gN 2) dYes (dCall d_end_meant (aVal (dVar 2) aNil)) [.fz (.str (tx es)), .fz (.list (sW es)), .no] = .ok (.own (.lst (es.map (encX false)))) [.fz (.str (tx es)), .fz (.list (sW es)), .no] := by
    refine r_lc (ds := sW es) (δ1 := [.fz (.str (tx es)), .fz (.list (sW es)), .no]) (by rfl) (by rw [hs]; rfl) ?_
    refine comp_map1 (ψ := encX false) fun e hm => ?_
    have c := e_end_meant (h e hm)
    generalize sW es = S at *
    generalize tx es = T at *
    generalize wd e = E at *
    generalize encX false e = F at *
    apply turn_1 (k := true)
    · walk_at "nrm"
    · ((with_reducible apply DL.g_n); rfl)
    · exact t_yes
    · ((with_reducible apply DL.p_t; walk_at "etest"); (with_reducible apply DL.turn_e); (with_reducible apply DL.r_call); (with_reducible apply DL.a_val); rfl; rfl; (with_reducible exact DL.a_nil); rfl; rfl; walk_at "ecall"; rfl)
    · rfl
  have hi : fIsi "str" (.str (tx es)) = some (.fz (.bool true)) := rfl
  generalize es.map (encX false) = R at *
  generalize sW es = S at *
  generalize tx es = T at *
  try unfold d_read_ride
  apply run_rt rfl
  · walk_at "nrm"
  · unfold sd_read_ride
    ((with_reducible apply DL.s_seqG); (with_reducible apply DL.s_if); (with_reducible apply DL.r_not); (with_reducible apply DL.r_test); (with_reducible apply DL.r_un); rfl; (with_reducible exact DL.vw_fz _ _); (with_reducible assumption); ((with_reducible apply DL.p_f); with_unfolding_all rfl); (with_reducible exact DL.s_skip); (with_reducible apply DL.k_nx); (with_reducible apply DL.s_seqG); (with_reducible apply DL.s_asg); (with_reducible assumption); ((with_reducible apply DL.set_own); with_unfolding_all rfl; walk_at "nrm"); (with_reducible apply DL.k_nx); (with_reducible apply DL.s_seqG); (with_reducible apply DL.s_if); (with_reducible apply DL.r_not); (with_reducible apply DL.r_test); (with_reducible assumption); ((with_reducible apply DL.p_f); with_unfolding_all rfl); (with_reducible exact DL.s_skip); (with_reducible apply DL.k_nx); (with_reducible apply DL.s_ret); (with_reducible assumption))
  all_goals rfl

/-! ### alike -/
theorem comp_none {α : Type} {f : D → DS → R (Option D)} {δ : DS} {enc : α → D} {xs : List α} (h : ∀ x ∈ xs, f (enc x) δ = .ok none δ) : compL f (xs.map enc) δ = .ok [] δ := by
  rw [DL.comp_map (φ := fun _ => none) xs h]
  congr 1
  simp
theorem al_succ (n : Nat) (as : List Sl) : d__law_alike (n + 1) as = noEx as (runDef 2 3 (sd__law_alike (d__law_alike n)) as) := by
  simp only [d__law_alike, itN]
theorem ne_same (b : Bool) : fNe (.bool b) (.bool b) = some (.fz (.bool false)) := by cases b <;> rfl
theorem al_int (n : Nat) (i : Int) : d__law_alike (n + 1) [.fz (.int i), .fz (.int i)] = .ok (.fz (.bool true)) [.no, .no] := by
  have h1 : ["list", "tuple"].any (isT (.int i)) = false := rfl
  have h2 : fEq (.int i) (.int i) = some (.fz (.bool true)) := by
    rw [f_eq rfl rfl]
    show some (Vl.fz (.bool (decide (i = i)))) = _
    rw [decide_eq_true rfl]
  have n1 := ne_same (isT (.int i) "bool")
  have n2 := ne_same (isT (.int i) "str")
  rw [al_succ]
  apply run_b rfl
  · walk_at "nrm"
  · unfold sd__law_alike
    ((with_reducible apply DL.s_seqG); (with_reducible apply DL.s_if); (with_reducible apply DL.r_test); (with_reducible apply DL.r_un); rfl; rfl; walk_at "ecall"; (with_reducible apply DL.p_f; walk_at "etest"); (with_reducible exact DL.s_skip); (with_reducible apply DL.k_nx); (with_reducible apply DL.s_seqG); (with_reducible apply DL.s_if); (with_reducible apply DL.r_or); (with_reducible apply DL.r_test); (with_reducible apply DL.r_bin); (with_reducible apply DL.r_un); rfl; rfl; walk_at "ecall"; (with_reducible apply DL.r_un); rfl; rfl; walk_at "ecall"; rfl; rfl; walk_at "ecall"; (with_reducible apply DL.p_f; walk_at "etest"); (with_reducible apply DL.r_test); (with_reducible apply DL.r_bin); (with_reducible apply DL.r_un); rfl; rfl; walk_at "ecall"; (with_reducible apply DL.r_un); rfl; rfl; walk_at "ecall"; rfl; rfl; walk_at "ecall"; (with_reducible apply DL.p_f; walk_at "etest"); (with_reducible exact DL.s_skip); (with_reducible apply DL.k_nx); (with_reducible apply DL.s_ret); (with_reducible apply DL.r_bin); rfl; rfl; rfl; rfl; walk_at "ecall")
  all_goals rfl
theorem al_tuple (n : Nat) (ds : List D) (hl : ds.length ≤ 1000) (h : ∀ d ∈ ds, d__law_alike n [.fz d, .fz d] = .ok (.fz (.bool true)) [.no, .no]) : d__law_alike (n + 1) [.fz (.tuple ds), .fz (.tuple ds)] = .ok (.fz (.bool true)) [.no, .no] := by
  have h1 : ["list", "tuple"].any (isT (.tuple ds)) = true := rfl
  have n1 := ne_same (isT (.tuple ds) "list")
  have n2 := ne_same (isT (.tuple ds) "tuple")
  have y1 : fLen (.tuple ds) = some (.fz (.int (ds.length : Nat))) := rfl
  have n3 : fNe (.int (ds.length : Nat)) (.int (ds.length : Nat)) = some (.fz (.bool false)) := by
    rw [f_ne rfl rfl]
    show some (Vl.fz (.bool (!decide (((ds.length : Nat) : Int) = (ds.length : Nat))))) = _
    rw [decide_eq_true rfl]
    rfl
  have hb1 : (-1000000 : Int) ≤ (ds.length : Nat) := by omega
  have hb2 : ((ds.length : Nat) : Int) ≤ 1000000 := by omega
  have n4 : fEqNil (.list []) (.list []) = some (.fz (.bool true)) := rfl
  have hc : compL (turnL [2] (gN 2) (dNot (dTest (dCall (d__law_alike n) (aVal (dBin fIx (dVar 0) (dVar 2)) (aVal (dBin fIx (dVar 1) (dVar 2)) aNil))))) (dVar 2)) ((List.range ((ds.length : Nat) : Int).toNat).map fun (i : Nat) => PyData.int i) [.fz (.tuple ds), .fz (.tuple ds), .no]
      = .ok [] [.fz (.tuple ds), .fz (.tuple ds), .no] := by
    refine comp_none fun k hk => ?_
    have hk : k < ds.length := by
      have := List.mem_range.mp hk
      omega
    have hx : ds[k]? = some ds[k] := List.getElem?_eq_getElem hk
    have hd := h ds[k] (List.getElem_mem hk)
    clear h1 n1 n2 n3 n4 y1
    generalize ds[k] = x at hx hd
    apply turn_1
    · walk_at "nrm"
    · ((with_reducible apply DL.g_n); rfl)
    · ((with_reducible apply DL.r_not); (with_reducible apply DL.r_test); (with_reducible apply DL.r_call); (with_reducible apply DL.a_val); (with_reducible apply DL.r_bin); rfl; rfl; rfl; rfl; (with_reducible apply DL.f_ixT; assumption); rfl; (with_reducible apply DL.a_val); (with_reducible apply DL.r_bin); rfl; rfl; rfl; rfl; (with_reducible apply DL.f_ixT; assumption); rfl; (with_reducible exact DL.a_nil); rfl; rfl; walk_at "ecall")
    · ((with_reducible apply DL.p_f; walk_at "etest"); rfl)
    · rfl
  have hs : (small ((List.range ((ds.length : Nat) : Int).toNat).map fun (i : Nat) => PyData.int i).length && freeAt [2] [.fz (.tuple ds), .fz (.tuple ds), .no]) = true := (Bool.and_eq_true _ _).mpr ⟨small_of (by rw [List.length_map, List.length_range]; omega), rfl⟩
  rw [al_succ]
  apply run_b rfl
  · walk_at "nrm"
  · unfold sd__law_alike
    ((with_reducible apply DL.s_seqG); (with_reducible apply DL.s_if); (with_reducible apply DL.r_test); (with_reducible apply DL.r_un); rfl; rfl; walk_at "ecall"; (with_reducible apply DL.p_t; walk_at "etest"); (with_reducible apply DL.s_seqG); (with_reducible apply DL.s_if); (with_reducible apply DL.r_or); (with_reducible apply DL.r_test); (with_reducible apply DL.r_bin); (with_reducible apply DL.r_un); rfl; rfl; walk_at "ecall"; (with_reducible apply DL.r_un); rfl; rfl; walk_at "ecall"; rfl; rfl; walk_at "ecall"; (with_reducible apply DL.p_f; walk_at "etest"); (with_reducible apply DL.r_test); (with_reducible apply DL.r_bin); (with_reducible apply DL.r_un); rfl; rfl; walk_at "ecall"; (with_reducible apply DL.r_un); rfl; rfl; walk_at "ecall"; rfl; rfl; walk_at "ecall"; (with_reducible apply DL.p_f; walk_at "etest"); (with_reducible exact DL.s_skip); (with_reducible apply DL.k_nx); (with_reducible apply DL.s_seqG); (with_reducible apply DL.s_if); (with_reducible apply DL.r_test); (with_reducible apply DL.r_bin); (with_reducible apply DL.r_un); rfl; rfl; walk_at "ecall"; (with_reducible apply DL.r_un); rfl; rfl; walk_at "ecall"; rfl; rfl; walk_at "ecall"; (with_reducible apply DL.p_f; walk_at "etest"); (with_reducible exact DL.s_skip); (with_reducible apply DL.k_nx); (with_reducible apply DL.s_ret); (with_reducible apply DL.r_bin); (with_reducible apply DL.r_lc); (with_reducible apply DL.i_r1); (with_reducible apply DL.l_cons); (with_reducible apply DL.r_un); rfl; rfl; walk_at "ecall"; rfl; (with_reducible exact DL.l_nil); walk_at "ecall"; walk_at "ecall"; walk_at "ecall"; walk_at "ecall"; (with_reducible apply DL.r_lst); (with_reducible exact DL.l_nil); (with_reducible apply DL.small_of; focus (first | omega | (simp <;> omega))); rfl; rfl; walk_at "ecall"; (with_reducible exact DL.k_rt))
  all_goals rfl
theorem al_list (n : Nat) (N : List D) (hle : N.length ≤ 1000) (hin : ∀ d ∈ N, d__law_alike n [.fz d, .fz d] = .ok (.fz (.bool true)) [.no, .no]) (s0 t0 : Sl) (hs0 : s0 = .fz (.list N) ∧ t0 = .no ∨ s0 = .arg (.lst N) ∧ t0 = .arg (.lst N)) : d__law_alike (n + 1) [s0, .fz (.list N)] = .ok (.fz (.bool true)) [t0, .no] := by
  have h1 : ["list", "tuple"].any (isT (.list N)) = true := rfl
  have n1 := ne_same (isT (.list N) "list")
  have n2 := ne_same (isT (.list N) "tuple")
  have y1 : fLen (.list N) = some (.fz (.int (N.length : Nat))) := rfl
  have n3 : fNe (.int (N.length : Nat)) (.int (N.length : Nat)) = some (.fz (.bool false)) := by
    rw [f_ne rfl rfl]
    show some (Vl.fz (.bool (!decide (((N.length : Nat) : Int) = (N.length : Nat))))) = _
    rw [decide_eq_true rfl]
    rfl
  have hb1 : (-1000000 : Int) ≤ (N.length : Nat) := by omega
  have hb2 : ((N.length : Nat) : Int) ≤ 1000000 := by omega
  have n4 : fEqNil (.list []) (.list []) = some (.fz (.bool true)) := rfl
  have hc : compL (turnL [2] (gN 2) (dNot (dTest (dCall (d__law_alike n) (aVal (dBin fIx (dVar 0) (dVar 2)) (aVal (dBin fIx (dVar 1) (dVar 2)) aNil))))) (dVar 2)) ((List.range ((N.length : Nat) : Int).toNat).map fun (i : Nat) => PyData.int i) [s0, .fz (.list N), .no]
      = .ok [] [s0, .fz (.list N), .no] := by
    refine comp_none fun k hk => ?_
    have hk : k < N.length := by
      have := List.mem_range.mp hk
      omega
    have hx : N[k]? = some N[k] := List.getElem?_eq_getElem hk
    have hd := hin N[k] (List.getElem_mem hk)
    clear h1 n1 n2 n3 n4 y1 hin
    generalize N[k] = x at hx hd
    rcases hs0 with ⟨rfl, _⟩ | ⟨rfl, _⟩
    · apply turn_1
      · walk_at "nrm"
      · ((with_reducible apply DL.g_n); rfl)
      · ((with_reducible apply DL.r_not); (with_reducible apply DL.r_test); (with_reducible apply DL.r_call); (with_reducible apply DL.a_val); (with_reducible apply DL.r_bin); rfl; rfl; rfl; rfl; (with_reducible apply DL.f_ixL; assumption); rfl; (with_reducible apply DL.a_val); (with_reducible apply DL.r_bin); rfl; rfl; rfl; rfl; (with_reducible apply DL.f_ixL; assumption); rfl; (with_reducible exact DL.a_nil); rfl; rfl; walk_at "ecall")
      · ((with_reducible apply DL.p_f; walk_at "etest"); rfl)
      · rfl
    · apply turn_1
      · walk_at "nrm"
      · ((with_reducible apply DL.g_n); rfl)
      · ((with_reducible apply DL.r_not); (with_reducible apply DL.r_test); (with_reducible apply DL.r_call); (with_reducible apply DL.a_val); (with_reducible apply DL.r_bin); rfl; rfl; rfl; rfl; (with_reducible apply DL.f_ixL; assumption); rfl; (with_reducible apply DL.a_val); (with_reducible apply DL.r_bin); rfl; rfl; rfl; rfl; (with_reducible apply DL.f_ixL; assumption); rfl; (with_reducible exact DL.a_nil); rfl; rfl; walk_at "ecall")
      · ((with_reducible apply DL.p_f; walk_at "etest"); rfl)
      · rfl
  have hs : (small ((List.range ((N.length : Nat) : Int).toNat).map fun (i : Nat) => PyData.int i).length && freeAt [2] [s0, .fz (.list N), .no]) = true := (Bool.and_eq_true _ _).mpr ⟨small_of (by rw [List.length_map, List.length_range]; omega), by rcases hs0 with ⟨rfl, _⟩ | ⟨rfl, _⟩ <;> rfl⟩
  clear hin
  rw [al_succ]
  rcases hs0 with ⟨rfl, rfl⟩ | ⟨rfl, rfl⟩
  · apply run_b rfl
    · walk_at "nrm"
    · unfold sd__law_alike
      ((with_reducible apply DL.s_seqG); (with_reducible apply DL.s_if); (with_reducible apply DL.r_test); (with_reducible apply DL.r_un); rfl; rfl; walk_at "ecall"; (with_reducible apply DL.p_t; walk_at "etest"); (with_reducible apply DL.s_seqG); (with_reducible apply DL.s_if); (with_reducible apply DL.r_or); (with_reducible apply DL.r_test); (with_reducible apply DL.r_bin); (with_reducible apply DL.r_un); rfl; rfl; walk_at "ecall"; (with_reducible apply DL.r_un); rfl; rfl; walk_at "ecall"; rfl; rfl; walk_at "ecall"; (with_reducible apply DL.p_f; walk_at "etest"); (with_reducible apply DL.r_test); (with_reducible apply DL.r_bin); (with_reducible apply DL.r_un); rfl; rfl; walk_at "ecall"; (with_reducible apply DL.r_un); rfl; rfl; walk_at "ecall"; rfl; rfl; walk_at "ecall"; (with_reducible apply DL.p_f; walk_at "etest"); (with_reducible exact DL.s_skip); (with_reducible apply DL.k_nx); (with_reducible apply DL.s_seqG); (with_reducible apply DL.s_if); (with_reducible apply DL.r_test); (with_reducible apply DL.r_bin); (with_reducible apply DL.r_un); rfl; rfl; walk_at "ecall"; (with_reducible apply DL.r_un); rfl; rfl; walk_at "ecall"; rfl; rfl; walk_at "ecall"; (with_reducible apply DL.p_f; walk_at "etest"); (with_reducible exact DL.s_skip); (with_reducible apply DL.k_nx); (with_reducible apply DL.s_ret); (with_reducible apply DL.r_bin); (with_reducible apply DL.r_lc); (with_reducible apply DL.i_r1); (with_reducible apply DL.l_cons); (with_reducible apply DL.r_un); rfl; rfl; walk_at "ecall"; rfl; (with_reducible exact DL.l_nil); walk_at "ecall"; walk_at "ecall"; walk_at "ecall"; walk_at "ecall"; (with_reducible apply DL.r_lst); (with_reducible exact DL.l_nil); (with_reducible apply DL.small_of; focus (first | omega | (simp <;> omega))); rfl; rfl; walk_at "ecall"; (with_reducible exact DL.k_rt))
    all_goals rfl
  · apply run_b rfl
    · walk_at "nrm"
    · unfold sd__law_alike
      ((with_reducible apply DL.s_seqG); (with_reducible apply DL.s_if); (with_reducible apply DL.r_test); (with_reducible apply DL.r_un); rfl; rfl; walk_at "ecall"; (with_reducible apply DL.p_t; walk_at "etest"); (with_reducible apply DL.s_seqG); (with_reducible apply DL.s_if); (with_reducible apply DL.r_or); (with_reducible apply DL.r_test); (with_reducible apply DL.r_bin); (with_reducible apply DL.r_un); rfl; rfl; walk_at "ecall"; (with_reducible apply DL.r_un); rfl; rfl; walk_at "ecall"; rfl; rfl; walk_at "ecall"; (with_reducible apply DL.p_f; walk_at "etest"); (with_reducible apply DL.r_test); (with_reducible apply DL.r_bin); (with_reducible apply DL.r_un); rfl; rfl; walk_at "ecall"; (with_reducible apply DL.r_un); rfl; rfl; walk_at "ecall"; rfl; rfl; walk_at "ecall"; (with_reducible apply DL.p_f; walk_at "etest"); (with_reducible exact DL.s_skip); (with_reducible apply DL.k_nx); (with_reducible apply DL.s_seqG); (with_reducible apply DL.s_if); (with_reducible apply DL.r_test); (with_reducible apply DL.r_bin); (with_reducible apply DL.r_un); rfl; rfl; walk_at "ecall"; (with_reducible apply DL.r_un); rfl; rfl; walk_at "ecall"; rfl; rfl; walk_at "ecall"; (with_reducible apply DL.p_f; walk_at "etest"); (with_reducible exact DL.s_skip); (with_reducible apply DL.k_nx); (with_reducible apply DL.s_ret); (with_reducible apply DL.r_bin); (with_reducible apply DL.r_lc); (with_reducible apply DL.i_r1); (with_reducible apply DL.l_cons); (with_reducible apply DL.r_un); rfl; rfl; walk_at "ecall"; rfl; (with_reducible exact DL.l_nil); walk_at "ecall"; walk_at "ecall"; walk_at "ecall"; walk_at "ecall"; (with_reducible apply DL.r_lst); (with_reducible exact DL.l_nil); (with_reducible apply DL.small_of; focus (first | omega | (simp <;> omega))); rfl; rfl; walk_at "ecall"; (with_reducible exact DL.k_rt))
    all_goals rfl
theorem al_ends (n : Nat) (es : List Ed) (hl : es.length ≤ 1000) (s0 t0 : Sl) (hs0 : s0 = .fz (.list (es.map (encX false))) ∧ t0 = .no ∨ s0 = .arg (.lst (es.map (encX false))) ∧ t0 = .arg (.lst (es.map (encX false)))) : d__law_alike (n + 3) [s0, .fz (.list (es.map (encX false)))] = .ok (.fz (.bool true)) [t0, .no] := by
  refine al_list (n + 2) _ (by rw [List.length_map]; exact hl) (fun d hd => ?_) s0 t0 hs0
  obtain ⟨q, _, rfl⟩ := List.mem_map.mp hd
  refine al_tuple (n + 1) _ (by simp) fun d hd => ?_
  simp only [List.mem_cons, List.not_mem_nil, or_false] at hd
  rcases hd with rfl | rfl
  · exact al_int n _
  · exact al_int n _

/-! ### drawn ends, dressed ends -/
theorem okSet_of {δ : DS} {i : Nat} {s : Sl} (h : δ[i]? = some s) (hn : s.isArg = false) : okSet δ i = true := by
  unfold okSet
  rw [h]
  cases s with
  | arg _ => cases hn
  | _ => rfl
theorem set_ownV {δ δ' : DS} {i : Nat} {s : Sl} {c : Co} (h : δ[i]? = some s) (hn : s.isArg = false) (hs : δ.set i (.own c) = δ') : setS i (.own c) δ = .ok .nx δ' := set_own (okSet_of h hn) hs
theorem set_fzV {δ δ' : DS} {i : Nat} {s : Sl} {d : D} (h : δ[i]? = some s) (hn : s.isArg = false) (hs : δ.set i (.fz d) = δ') : setS i (.fz d) δ = .ok .nx δ' := set_fz (okSet_of h hn) hs
def Na (s : Sl) : Prop := s.isArg = false
def Fr (s : Sl) : Prop := s = .no ∨ ∃ x, s = .fz x
theorem Fr.na {s : Sl} (h : Fr s) : s.isArg = false := by
  rcases h with rfl | ⟨x, rfl⟩ <;> rfl
abbrev enB : Ds := (dApp 4 (dTup (dCons (dCall d__law_draw (aRef 1 (aVal (dVar 3) aNil))) (dCons (dCall d__law_draw (aRef 1 (aVal (dC (.int 2)) aNil))) dNil))))
def enP (SC K2 : D) (w : Int) (s6 s7 s8 s9 : Sl) (b j : Nat) (δ : DS) : Prop := ∃ (r : Rl) (es : List Ed) (sl : Sl), δ = [.fz SC, .own (.lst (encR r)), .fz K2, .fz (.int w), .own (.lst (es.map (encX false))), sl, s6, s7, s8, s9, .no, .no] ∧ Fr sl ∧ RlOk (b + 2 * j) r ∧ es.length = j ∧ ∀ e ∈ es, Ok1 e
theorem en_loop {SC K2 : D} {w : Int} (h0 : 0 < w) (h1 : w ≤ 10 ^ 30) {s6 s7 s8 s9 : Sl} {b : Nat} (hb : b ≤ 100000) (n : Nat) (hn : n ≤ 60) (δ : DS) (h : enP SC K2 w s6 s7 s8 s9 b 0 δ) :
    ∃ δ', forL (stepB (gN 5) enB) ((List.range n).map fun (i : Nat) => PyData.int i) δ = .ok .nx δ' ∧ enP SC K2 w s6 s7 s8 s9 b n δ' := by
  have key := for_idx (P := enP SC K2 w s6 s7 s8 s9 b) (f := stepB (gN 5) enB) ((List.range n).map fun (i : Nat) => PyData.int i) 0 (fun j d hj δ hP => by
    have hjn : j < n := by
      have := (List.getElem?_eq_some_iff.mp hj).1
      simpa using this
    rw [Nat.zero_add] at hP ⊢
    obtain ⟨r, es, sl, rfl, hs, hr, hl, hok⟩ := hP
    obtain ⟨v1, r1, e1, a1, a2, q1⟩ := e_drawG hr (by omega) w h0 h1
    obtain ⟨v2, r2, e2, b1, b2, q2⟩ := e_draw q1 (by omega) 2 (by decide) (by decide)
    have hsm : (es.map (encX false)).length ≤ 60 := by rw [List.length_map]; omega
    have hE : encX false (v1.toNat, decide (v2 = 0)) = .tuple [.int v1, .int v2] := by
      show PyData.tuple [.int ((v1.toNat : Nat) : Int), .int (sd (decide (v2 = 0)))] = _
      rw [Int.toNat_of_nonneg a1]
      by_cases z : v2 = 0
      · rw [decide_eq_true z, z]
        rfl
      · rw [decide_eq_false z, show v2 = 1 by omega]
        rfl
    refine ⟨[.fz SC, .own (.lst (encR r2)), .fz K2, .fz (.int w), .own (.lst (es.map (encX false) ++ [.tuple [.int v1, .int v2]])), .fz d, s6, s7, s8, s9, .no, .no], ?_, r2, es ++ [(v1.toNat, decide (v2 = 0))], .fz d, ?_, .inr ⟨d, rfl⟩, q2.mono (by omega), by simp [hl], fun e he => ?_⟩
    · generalize es.map (encX false) = L at *
      apply step_b
      · exact g_n (set_fzV rfl hs.na rfl)
      · walk_at "ev"
        exact m_own rfl (f_app (small_of (by omega))) rfl
    · rw [List.map_append, List.map_cons, List.map_nil, hE]
    · rcases List.mem_append.mp he with q | q
      · exact hok e q
      · have : e = (v1.toNat, decide (v2 = 0)) := by simpa using q
        subst this
        show v1.toNat < 10 ^ 30
        omega) δ h
  rw [List.length_map, List.length_range, Nat.zero_add] at key
  exact key
theorem dr_end (n : Nat) {b : Nat} {r : Rl} (h : RlOk b r) (hb : b ≤ 100000) (e : Ed) : ∃ (c : Bool) (r' : Rl), d__law_dressed (n + 2) [.arg (.lst (encR r)), .fz (encX false e)] = .ok (vsq c [.int (e.1 : Nat), .int (sd e.2)]) [.arg (.lst (encR r')), .no] ∧ RlOk (b + 1) r' := by
  refine dr_row (n + 1) (ds := [.int (e.1 : Nat), .int (sd e.2)]) (es := [.int (e.1 : Nat), .int (sd e.2)]) rfl h (by omega) ?_
  have k1 := dr_keep n r (d := .int (e.1 : Nat)) rfl
  have k2 := dr_keep n r (d := .int (sd e.2)) rfl
  have t1 := dr_turn (ds := [.int (e.1 : Nat), .int (sd e.2)]) k1 (kp_fz _)
  have t2 := dr_turn (ds := [.int (e.1 : Nat), .int (sd e.2)]) k2 (kp_fz _)
  unfold compL
  rw [t1]
  simp only
  unfold compL
  rw [t2]
  rfl
theorem dr_ends (n : Nat) (D0 : List D) : ∀ (es : List Ed) {b : Nat} {r : Rl}, RlOk b r → b + es.length ≤ 100000 →
    ∃ (qs : List (Bool × Ed)) (r' : Rl), compL (turnL [3] (gN 3) dYes (dCall (d__law_dressed (n + 2)) (aRef 0 (aVal (dVar 3) aNil)))) (es.map (encX false)) [.arg (.lst (encR r)), .fz (.tuple D0), .no, .no] = .ok (qs.map encQ') [.arg (.lst (encR r')), .fz (.tuple D0), .no, .no] ∧ prs qs = es ∧ RlOk (b + es.length) r'
  | [], b, r, h, _ => ⟨[], r, rfl, rfl, h⟩
  | e :: es, b, r, h, hb => by
    rw [List.length_cons] at hb
    obtain ⟨c, r1, e1, h1⟩ := dr_end n h (by omega) e
    obtain ⟨qs, r2, e2, p2, h2⟩ := dr_ends n D0 es h1 (by omega)
    refine ⟨(c, e) :: qs, r2, ?_, by show e :: prs qs = _; rw [p2], h2.mono (by rw [List.length_cons]; omega)⟩
    have t := dr_turn (ds := D0) e1 (kp_sq c _)
    rw [List.map_cons]
    unfold compL
    rw [t]
    simp only
    rw [e2]
    rfl
theorem e_dress {es : List Ed} (hl : es.length ≤ 100) {b : Nat} {r : Rl} (h : RlOk b r) (hb : b ≤ 90000) : ∃ (c : Bool) (qs : List (Bool × Ed)) (r' : Rl), d__law_dressed fuelR [.arg (.lst (encR r)), .fz (.tuple (es.map (encX false)))] = .ok (vsq c (qs.map encQ')) [.arg (.lst (encR r')), .no] ∧ prs qs = es ∧ RlOk (b + 101) r' := by
  obtain ⟨qs, r1, e1, p1, h1⟩ := dr_ends 17 (es.map (encX false)) es h (by omega)
  obtain ⟨c, r2, e2, h2⟩ := dr_row 19 (small_of (by rw [List.length_map]; omega)) h1 (by omega) e1
  exact ⟨c, qs, r2, e2, p1, h2.mono (by omega)⟩
/-! ### what can be shown -/
theorem rep_qs (c : Bool) {qs : List (Bool × Ed)} (h : ∀ q ∈ qs, Ok1 q.2) (hl : qs.length ≤ 100) : ∃ y : Str, fReprH (sq c (qs.map encQ')) = some (.fz (.str y)) := by
  have o1 : ∀ q ∈ qs, okT (encQ' q) = true := fun q hq => by
    obtain ⟨b, n, s⟩ := q
    have h : n < 10 ^ 30 := h _ hq
    show okT (sq b _) = true
    rw [okT_row]
    show (decide (((n : Nat) : Int).natAbs < 10 ^ 30) && (decide ((sd s).natAbs < 10 ^ 30) && true)) = true
    rw [decide_eq_true (by omega), decide_eq_true (by cases s <;> decide)]
    rfl
  have w1 : ∀ qs : List (Bool × Ed), wtA (qs.map encQ') = 120 * qs.length := fun qs => by
    induction qs with
    | nil => rfl
    | cons q qs ih =>
      rw [List.map_cons, wtA, ih, List.length_cons]
      have : wt (encQ' q) = 120 := by
        show wt (sq q.1 _) = 120
        rw [wt_row]
        rfl
      omega
  have d1 : dpA (qs.map encQ') ≤ 1 := dpA_le fun d hd => by
    obtain ⟨q, _, rfl⟩ := List.mem_map.mp hd
    show dpT (sq q.1 _) ≤ 1
    rw [dp_row]
    exact Nat.le_refl _
  refine rep_tame ?_ ?_ ?_
  · rw [okT_row]
    exact okTA_of fun d hd => by
      obtain ⟨q, hq, rfl⟩ := List.mem_map.mp hd
      exact o1 q hq
  · rw [dp_row]
    omega
  · rw [wt_row, w1]
    omega

/-! ### the law -/
theorem f_neS (z : Str) : fNeS (.str z) (.str z) = some (.fz (.bool false)) := by
  show some (Vl.fz (.bool (!(z == z)))) = _
  rw [beq_self_eq_true]
  rfl
def dcW : D → Option D
  | .tuple [.int n, .int s] => some (.str (nmS n.toNat ++ sgS (decide (s = 0))))
  | _ => none
theorem dcW_enc (e : Ed) : dcW (encX false e) = some (.str (wd e)) := by
  obtain ⟨n, s⟩ := e
  cases s <;> rfl
theorem dcW_all (es : List Ed) : (es.map (encX false)).filterMap dcW = sW es := by
  induction es with
  | nil => rfl
  | cons e es ih =>
    rw [List.map_cons, List.filterMap_cons, dcW_enc, ih]
    rfl
theorem z_strI {n : Nat} (h : n < 10 ^ 30) : fStrI (.int (n : Nat)) = some (.fz (.str (nmS n))) := by
  show okO (decide (((n : Nat) : Int).natAbs.log2 < 1900)) (some (Vl.fz (.str (nmS n)))) = _
  rw [decide_eq_true (nm_log h)]
  rfl
theorem z_sign (s : Bool) : fIx (.str ("+-" : PySem.Str)) (.int (sd s)) = some (.fz (.str (sgS s))) := by cases s <;> rfl
theorem z_word {e : Ed} (h : Ok1 e) : fAdd (.str (nmS e.1)) (.str (sgS e.2)) = some (.fz (.str (wd e))) := by
  show okO (small ((nmS e.1).length + (sgS e.2).length)) (some (Vl.fz (.str (nmS e.1 ++ sgS e.2)))) = _
  rw [small_of (by
    have := nm_len h
    have : (sgS e.2).length = 1 := rfl
    omega)]
  rfl
theorem z_due {SC K2 : D} {R1 : List D} {W : D} {es : List Ed} (h : ∀ e ∈ es, Ok1 e) (hl : es.length ≤ 100) {s5 s6 s7 s8 s9 : Sl} (h5 : Fr s5) (h6 : (s6 = .no ∧ s7 = .no ∧ s8 = .no ∧ s9 = .no) ∨ ∃ x6 x7 x8 l9, s6 = .fz x6 ∧ s7 = .fz x7 ∧ s8 = .fz x8 ∧ s9 = .own (.lst l9)) :
    dLcO 4 [10, 11] (gTupD 2 (gsCons (gN 10) (gsCons (gN 11) gsNil))) dYes (dBin fAdd (dUn fStrI (dVar 10)) (dBin fIx (dC (.str ("+-" : PySem.Str))) (dVar 11))) [.fz SC, .own (.lst R1), .fz K2, .fz W, .own (.lst (es.map (encX false))), s5, s6, s7, s8, s9, .no, .no] = .ok (.own (.lst (sW es))) [.fz SC, .own (.lst R1), .fz K2, .fz W, .own (.lst (es.map (encX false))), s5, s6, s7, s8, s9, .no, .no] := by
  rw [← dcW_all]
  rcases h5 with rfl | ⟨x5, rfl⟩ <;> rcases h6 with ⟨rfl, rfl, rfl, rfl⟩ | ⟨x6, x7, x8, l9, rfl, rfl, rfl, rfl⟩
  all_goals
    refine r_lcO (by rfl) (by rfl) (by rw [List.length_map]; omega) fun d hd => ?_
    obtain ⟨e, he, rfl⟩ := List.mem_map.mp hd
    have c1 := z_strI (h e he)
    have c2 := z_sign e.2
    have c3 := z_word (h e he)
    rw [dcW_enc]
    generalize wd e = Z at *
    generalize nmS e.1 = N at *
    generalize sgS e.2 = S at *
    show turnL _ _ _ _ (.tuple [.int (e.1 : Nat), .int (sd e.2)]) _ = _
    generalize sd e.2 = s at *
    generalize e.1 = n at *
    generalize es.map (encX false) = L at *
    apply turn_1 (k := true)
    · walk_at "nrm"
    · ((with_reducible apply DL.g_tup); rfl; (with_reducible apply DL.g_cons); (with_reducible apply DL.g_n); rfl; (with_reducible apply DL.g_cons); (with_reducible apply DL.g_n); rfl; (with_reducible exact DL.g_nil))
    · exact t_yes
    · ((with_reducible apply DL.p_t; walk_at "etest"); (with_reducible apply DL.turn_e); (with_reducible apply DL.r_bin); (with_reducible apply DL.r_un); rfl; rfl; walk_at "ecall"; (with_reducible apply DL.r_bin); (with_reducible exact DL.r_c); rfl; rfl; rfl; walk_at "ecall"; rfl; rfl; walk_at "ecall"; rfl)
    · rfl

abbrev cA : De := dBin fIx (dLst (dCons (dC (.int 3)) (dCons (dC (.int 60)) (dCons (dBin fPow (dC (.int 10)) (dC (.int 30))) dNil)))) (dCall d__law_draw (aRef 1 (aVal (dC (.int 3)) aNil)))
abbrev cC : Di := dRange1 (dCons (dBin fIx (dLst (dCons (dCall d__law_draw (aRef 1 (aVal (dC (.int 5)) aNil))) (dCons (dCall d__law_draw (aRef 1 (aVal (dC (.int 61)) aNil))) dNil))) (dCall d__law_draw (aRef 1 (aVal (dC (.int 2)) aNil)))) dNil)
abbrev cD : De := dUn (fJoin (" " : PySem.Str)) (dLcO 4 [10, 11] (gTupD 2 (gsCons (gN 10) (gsCons (gN 11) gsNil))) dYes (dBin fAdd (dUn fStrI (dVar 10)) (dBin fIx (dC (.str ("+-" : PySem.Str))) (dVar 11))))
abbrev cE : De := dCall (d__law_dressed fuelR) (aRef 1 (aVal (dUn fTuple (dVar 4)) aNil))
abbrev sG : Ds := (dIfS (dOr (dTest (dBin fNe (dCall d_ride_text (aVal (dVar 7) aNil)) (dVar 6))) (dOr (dTest (dBin fNe (dCall d_ride_text (aVal (dVar 4) aNil)) (dVar 6))) (dTest (dBin fNeS (dUn fReprH (dVar 7)) (dVar 8))))) (dRet (dC (.bool false))) dSkip)
abbrev sH : Ds := (dSeq (dAsg 9 (dCall d_read_ride (aVal (dVar 6) aNil))) (dSeq (dIfS (dNot (dTest (dCall (d__law_alike fuelR) (aRef 9 (aVal (dVar 4) aNil))))) (dRet (dC (.bool false))) dSkip) (dSeq (dApp 9 (dTup (dCons (dC (.int 0)) (dCons (dC (.int 0)) dNil)))) (dIfS (dNot (dTest (dCall (d__law_alike fuelR) (aVal (dCall d_read_ride (aVal (dVar 6) aNil)) (aVal (dVar 4) aNil))))) (dRet (dC (.bool false))) dSkip))))
abbrev tnB : Ds := (dSeq (dAsg 3 cA) (dSeq (dAsg 4 (dLst dNil)) (dSeq (dFor cC (gN 5) enB) (dSeq (dAsg 6 cD) (dSeq (dAsg 7 cE) (dSeq (dAsg 8 (dUn fReprH (dVar 7))) (dSeq sG sH)))))))
def lawP (SC : D) (j : Nat) (δ : DS) : Prop := ∃ (r : Rl) (s2 s3 s4 s5 s6 s7 s8 s9 : Sl), δ = [.fz SC, .own (.lst (encR r)), s2, s3, s4, s5, s6, s7, s8, s9, .no, .no] ∧ RlOk (500 * j) r ∧ Na s2 ∧ Na s3 ∧ Na s4 ∧ Fr s5 ∧ ((s6 = .no ∧ s7 = .no ∧ s8 = .no ∧ s9 = .no) ∨ ∃ x6 x7 x8 l9, s6 = .fz x6 ∧ s7 = .fz x7 ∧ s8 = .fz x8 ∧ s9 = .own (.lst l9))
theorem law_step {SC : D} (j : Nat) (hj : j < 20) (d : D) {δ : DS} (h : lawP SC j δ) : ∃ δ', stepB (gN 2) tnB d δ = .ok .nx δ' ∧ lawP SC (j + 1) δ' := by
  obtain ⟨r, s2, s3, s4, s5, s6, s7, s8, s9, rfl, hr, h2, h3, h4, h5, h6⟩ := h
  have n6 : Na s6 := by rcases h6 with ⟨rfl, _⟩ | ⟨x6, _, _, _, rfl, _⟩ <;> rfl
  have n7 : Na s7 := by rcases h6 with ⟨_, rfl, _⟩ | ⟨_, x7, _, _, _, rfl, _⟩ <;> rfl
  have n8 : Na s8 := by rcases h6 with ⟨_, _, rfl, _⟩ | ⟨_, _, x8, _, _, _, rfl, _⟩ <;> rfl
  have n9 : Na s9 := by rcases h6 with ⟨_, _, _, rfl⟩ | ⟨_, _, _, l9, _, _, _, rfl⟩ <;> rfl
  obtain ⟨v1, r1, e1, a1, b1, q1⟩ := e_draw hr (by omega) 3 (by decide) (by decide)
  obtain ⟨w, hw, x1⟩ := ix_in (xs := [3, 60, 10 ^ 30]) (j := v1) a1 (by show v1 < 3; exact b1)
  have hw0 : 0 < w ∧ w ≤ 10 ^ 30 := by
    simp only [List.mem_cons, List.not_mem_nil, or_false] at hw
    omega
  have p30 : fPow (.int 10) (.int 30) = some (.fz (.int (10 ^ 30))) := rfl
  obtain ⟨v2, r2, e2, a2, b2, q2⟩ := e_draw q1 (by omega) 5 (by decide) (by decide)
  obtain ⟨v3, r3, e3, a3, b3, q3⟩ := e_draw q2 (by omega) 61 (by decide) (by decide)
  obtain ⟨v4, r4, e4, a4, b4, q4⟩ := e_draw q3 (by omega) 2 (by decide) (by decide)
  obtain ⟨n, hn, x4⟩ := ix_in (xs := [v2, v3]) (j := v4) a4 (by show v4 < 2; exact b4)
  have hn0 : 0 ≤ n ∧ n ≤ 60 := by
    simp only [List.mem_cons, List.not_mem_nil, or_false] at hn
    omega
  have hnA : -1000000 ≤ n := by omega
  have hnB : n ≤ 1000000 := by omega
  obtain ⟨δ', eL, r5, es, sl, rfl, f5, q5, hl, ok⟩ := en_loop (SC := SC) (K2 := d) hw0.1 hw0.2 (s6 := s6) (s7 := s7) (s8 := s8) (s9 := s9) (b := 500 * j + 4) (by omega) n.toNat (by omega) [.fz SC, .own (.lst (encR r4)), .fz d, .fz (.int w), .own (.lst []), s5, s6, s7, s8, s9, .no, .no] ⟨r4, [], s5, rfl, h5, q4, rfl, by simp⟩
  have hl1 : es.length ≤ 60 := by omega
  obtain ⟨c, qs, r6, e6, pq, q6⟩ := e_dress (es := es) (by omega) q5 (by omega)
  have okq : ∀ q ∈ qs, Ok1 q.2 := fun q hq => ok q.2 (by rw [← pq]; exact List.mem_map.mpr ⟨q, hq, rfl⟩)
  have hlq : qs.length ≤ 100 := by
    have : (prs qs).length = qs.length := List.length_map _
    rw [pq] at this
    omega
  obtain ⟨y, ry⟩ := rep_qs c okq hlq
  have hD : dAsg 6 cD [.fz SC, .own (.lst (encR r5)), .fz d, .fz (.int w), .own (.lst (es.map (encX false))), sl, s6, s7, s8, s9, .no, .no] = .ok .nx [.fz SC, .own (.lst (encR r5)), .fz d, .fz (.int w), .own (.lst (es.map (encX false))), sl, .fz (.str (tx es)), s7, s8, s9, .no, .no] :=
    s_asg (r_un (z_due (SC := SC) (K2 := d) (W := .int w) (R1 := encR r5) ok (by omega) f5 h6) rfl (z_join ok (by omega))) (set_fzV rfl n6 rfl)
  have hA : dAsg 3 cA [.fz SC, .own (.lst (encR r)), .fz d, s3, s4, s5, s6, s7, s8, s9, .no, .no] = .ok .nx [.fz SC, .own (.lst (encR r1)), .fz d, .fz (.int w), s4, s5, s6, s7, s8, s9, .no, .no] := by
    apply s_asg
    · ((with_reducible apply DL.r_bin); (with_reducible apply DL.r_lst); (with_reducible apply DL.l_cons); (with_reducible exact DL.r_c); rfl; (with_reducible apply DL.l_cons); (with_reducible exact DL.r_c); rfl; (with_reducible apply DL.l_cons); (with_reducible apply DL.r_bin); (with_reducible exact DL.r_c); (with_reducible exact DL.r_c); rfl; rfl; walk_at "ecall"; rfl; (with_reducible exact DL.l_nil); (with_reducible apply DL.small_of; focus (first | omega | (simp <;> omega))); (with_reducible apply DL.r_callR); (with_reducible apply DL.a_val); (with_reducible exact DL.r_c); rfl; (with_reducible exact DL.a_nil); rfl; rfl; rfl; rfl; walk_at "ecall"; (with_reducible apply DL.set_goal; walk_at "nrm"); rfl; rfl; walk_at "ecall")
    · exact set_fzV rfl h3 rfl
  have hB : dAsg 4 (dLst dNil) [.fz SC, .own (.lst (encR r1)), .fz d, .fz (.int w), s4, s5, s6, s7, s8, s9, .no, .no] = .ok .nx [.fz SC, .own (.lst (encR r1)), .fz d, .fz (.int w), .own (.lst []), s5, s6, s7, s8, s9, .no, .no] := by
    apply s_asg
    · ((with_reducible apply DL.r_lst); (with_reducible exact DL.l_nil); (with_reducible apply DL.small_of; focus (first | omega | (simp <;> omega))))
    · exact set_ownV rfl h4 rfl
  have hC : dFor cC (gN 5) enB [.fz SC, .own (.lst (encR r1)), .fz d, .fz (.int w), .own (.lst []), s5, s6, s7, s8, s9, .no, .no] = .ok .nx [.fz SC, .own (.lst (encR r5)), .fz d, .fz (.int w), .own (.lst (es.map (encX false))), sl, s6, s7, s8, s9, .no, .no] := by
    refine s_for (i_r1 (n := n) ?_ hnA hnB) eL
    ((with_reducible apply DL.l_cons); (with_reducible apply DL.r_bin); (with_reducible apply DL.r_lst); (with_reducible apply DL.l_cons); (with_reducible apply DL.r_callR); (with_reducible apply DL.a_val); (with_reducible exact DL.r_c); rfl; (with_reducible exact DL.a_nil); rfl; rfl; rfl; rfl; walk_at "ecall"; (with_reducible apply DL.set_goal; walk_at "nrm"); rfl; (with_reducible apply DL.l_cons); (with_reducible apply DL.r_callR); (with_reducible apply DL.a_val); (with_reducible exact DL.r_c); rfl; (with_reducible exact DL.a_nil); rfl; rfl; rfl; rfl; walk_at "ecall"; (with_reducible apply DL.set_goal; walk_at "nrm"); rfl; (with_reducible exact DL.l_nil); (with_reducible apply DL.small_of; focus (first | omega | (simp <;> omega))); (with_reducible apply DL.r_callR); (with_reducible apply DL.a_val); (with_reducible exact DL.r_c); rfl; (with_reducible exact DL.a_nil); rfl; rfl; rfl; rfl; walk_at "ecall"; (with_reducible apply DL.set_goal; walk_at "nrm"); rfl; rfl; walk_at "ecall"; rfl; (with_reducible exact DL.l_nil))
  have hT : fTuple (.list (es.map (encX false))) = some (.fz (.tuple (es.map (encX false)))) := rfl
  have hE : ∃ V, (V = .fz (sq c (qs.map encQ')) ∨ ∃ l, sq c (qs.map encQ') = .list l ∧ V = .own (.lst l)) ∧ dAsg 7 cE [.fz SC, .own (.lst (encR r5)), .fz d, .fz (.int w), .own (.lst (es.map (encX false))), sl, .fz (.str (tx es)), s7, s8, s9, .no, .no] = .ok .nx [.fz SC, .own (.lst (encR r6)), .fz d, .fz (.int w), .own (.lst (es.map (encX false))), sl, .fz (.str (tx es)), V, s8, s9, .no, .no] := by
    cases c with
    | false =>
      refine ⟨_, .inl rfl, ?_⟩
      have e6 : d__law_dressed fuelR [.arg (.lst (encR r5)), .fz (.tuple (es.map (encX false)))] = .ok (.fz (.tuple (qs.map encQ'))) [.arg (.lst (encR r6)), .no] := e6
      generalize es.map (encX false) = L at *
      apply s_asg
      · ((with_reducible apply DL.r_callR); (with_reducible apply DL.a_val); (with_reducible apply DL.r_un); rfl; rfl; (with_reducible assumption); (with_reducible exact DL.kp_fzE _ _); (with_reducible exact DL.a_nil); rfl; rfl; rfl; rfl; walk_at "ecall"; (with_reducible apply DL.set_goal; walk_at "nrm"))
      · exact set_fzV rfl n7 rfl
    | true =>
      refine ⟨_, .inr ⟨_, rfl, rfl⟩, ?_⟩
      have e6 : d__law_dressed fuelR [.arg (.lst (encR r5)), .fz (.tuple (es.map (encX false)))] = .ok (.own (.lst (qs.map encQ'))) [.arg (.lst (encR r6)), .no] := e6
      generalize es.map (encX false) = L at *
      apply s_asg
      · ((with_reducible apply DL.r_callR); (with_reducible apply DL.a_val); (with_reducible apply DL.r_un); rfl; rfl; (with_reducible assumption); (with_reducible exact DL.kp_fzE _ _); (with_reducible exact DL.a_nil); rfl; rfl; rfl; rfl; walk_at "ecall"; (with_reducible apply DL.set_goal; walk_at "nrm"))
      · exact set_ownV rfl n7 rfl
  obtain ⟨V, hV, hE⟩ := hE
  have k1 := e_ride_text c okq hlq
  rw [pq] at k1
  have k2 := e_ride_text true (qs := es.map fun e => (false, e)) (fun q hq => by
    obtain ⟨e, he, rfl⟩ := List.mem_map.mp hq
    exact ok e he) (by rw [List.length_map]; omega)
  have pl : (es.map fun e => ((false, e) : Bool × Ed)).map encQ' = es.map (encX false) := by
    rw [List.map_map]
    rfl
  have pm : prs (es.map fun e => ((false, e) : Bool × Ed)) = es := by
    show (es.map _).map _ = es
    rw [List.map_map]
    exact List.map_id _
  rw [pl, pm] at k2
  have k2 : d_ride_text [.fz (.list (es.map (encX false)))] = .ok (.fz (.str (tx es))) [.no] := k2
  have k3 := e_read_ride ok (by omega)
  have k4 : d__law_alike fuelR [.arg (.lst (es.map (encX false))), .fz (.list (es.map (encX false)))] = .ok (.fz (.bool true)) [.arg (.lst (es.map (encX false))), .no] := al_ends 17 es (by omega) _ _ (.inr ⟨rfl, rfl⟩)
  have k5 : d__law_alike fuelR [.fz (.list (es.map (encX false))), .fz (.list (es.map (encX false)))] = .ok (.fz (.bool true)) [.no, .no] := al_ends 17 es (by omega) _ _ (.inl ⟨rfl, rfl⟩)
  have ne : fNe (.str (tx es)) (.str (tx es)) = some (.fz (.bool false)) := by
    rw [f_ne (tx_sh es) (tx_sh es), eqv_str, decide_eq_true rfl]
    rfl
  have nr := f_neS y
  have ap : fApp (.tuple [.int 0, .int 0]) (es.map (encX false)) = some (es.map (encX false) ++ [.tuple [.int 0, .int 0]]) := f_app (small_of (by rw [List.length_map]; omega))
  have hR : ∃ V', (V' = .fz (sq c (qs.map encQ'))) ∧ dSeq (dAsg 8 (dUn fReprH (dVar 7))) (dSeq sG sH) [.fz SC, .own (.lst (encR r6)), .fz d, .fz (.int w), .own (.lst (es.map (encX false))), sl, .fz (.str (tx es)), V, s8, s9, .no, .no] = .ok .nx [.fz SC, .own (.lst (encR r6)), .fz d, .fz (.int w), .fz (.list (es.map (encX false))), sl, .fz (.str (tx es)), V', .fz (.str y), .own (.lst (es.map (encX false) ++ [.tuple [.int 0, .int 0]])), .no, .no] := by
    refine ⟨_, rfl, ?_⟩
    clear hA hB hC hD hE eL x1 x4 e1 e2 e3 e4 e6 pl pm hT
    generalize es.map (encX false) = L at *
    generalize tx es = T at *
    generalize sq c (qs.map encQ') = S at *
    generalize encR r6 = R at *
    rcases hV with rfl | ⟨l, rfl, rfl⟩
    · refine s_seq (δ1 := [.fz SC, .own (.lst R), .fz d, .fz (.int w), .own (.lst L), sl, .fz (.str T), .fz S, .fz (.str y), s9, .no, .no]) ?_ ?_
      · apply s_asg
        · ((with_reducible apply DL.r_un); rfl; (with_reducible exact DL.vw_fz _ _); (with_reducible assumption))
        · exact set_fzV rfl n8 rfl
      · refine s_seq (δ1 := [.fz SC, .own (.lst R), .fz d, .fz (.int w), .fz (.list L), sl, .fz (.str T), .fz S, .fz (.str y), s9, .no, .no]) ?_ ?_
        · ((with_reducible apply DL.s_if); (with_reducible apply DL.r_or); (with_reducible apply DL.r_test); (with_reducible apply DL.r_bin); (with_reducible apply DL.r_call); (with_reducible apply DL.a_val); rfl; (with_reducible exact DL.kp_fzE _ _); (with_reducible exact DL.a_nil); rfl; rfl; walk_at "ecall"; rfl; (with_reducible exact DL.vw_fz _ _); (with_reducible exact DL.vw_fz _ _); (with_reducible assumption); ((with_reducible apply DL.p_f); with_unfolding_all rfl); (with_reducible apply DL.r_or); (with_reducible apply DL.r_test); (with_reducible apply DL.r_bin); (with_reducible apply DL.r_call); (with_reducible apply DL.a_val); rfl; ((with_reducible apply DL.kp_locO); with_unfolding_all rfl; walk_at "nrm"); (with_reducible exact DL.a_nil); rfl; rfl; walk_at "ecall"; rfl; (with_reducible exact DL.vw_fz _ _); (with_reducible exact DL.vw_fz _ _); (with_reducible assumption); ((with_reducible apply DL.p_f); with_unfolding_all rfl); (with_reducible apply DL.r_test); (with_reducible apply DL.r_bin); (with_reducible apply DL.r_un); rfl; (with_reducible exact DL.vw_fz _ _); (with_reducible assumption); rfl; (with_reducible exact DL.vw_fz _ _); (with_reducible exact DL.vw_fz _ _); (with_reducible assumption); ((with_reducible apply DL.p_f); with_unfolding_all rfl); (with_reducible exact DL.s_skip))
        · refine s_seq (δ1 := [.fz SC, .own (.lst R), .fz d, .fz (.int w), .fz (.list L), sl, .fz (.str T), .fz S, .fz (.str y), .own (.lst L), .no, .no]) ?_ ?_
          · apply s_asg
            · ((with_reducible apply DL.r_call); (with_reducible apply DL.a_val); rfl; (with_reducible exact DL.kp_fzE _ _); (with_reducible exact DL.a_nil); rfl; rfl; walk_at "ecall")
            · exact set_ownV rfl n9 rfl
          · ((with_reducible apply DL.s_seqG); (with_reducible apply DL.s_if); (with_reducible apply DL.r_not); (with_reducible apply DL.r_test); (with_reducible apply DL.r_callR); (with_reducible apply DL.a_val); rfl; (with_reducible exact DL.kp_fzE _ _); (with_reducible exact DL.a_nil); rfl; rfl; rfl; rfl; walk_at "ecall"; (with_reducible apply DL.set_goal; walk_at "nrm"); ((with_reducible apply DL.p_f); with_unfolding_all rfl); (with_reducible exact DL.s_skip); (with_reducible apply DL.k_nx); (with_reducible apply DL.s_seqG); (with_reducible apply DL.s_app); rfl; (with_reducible apply DL.r_tup); (with_reducible apply DL.l_cons); (with_reducible exact DL.r_c); (with_reducible exact DL.kp_fzE _ _); (with_reducible apply DL.l_cons); (with_reducible exact DL.r_c); (with_reducible exact DL.kp_fzE _ _); (with_reducible exact DL.l_nil); (with_reducible apply DL.small_of; focus (first | omega | (simp <;> omega))); (with_reducible exact DL.kp_fzE _ _); ((with_reducible apply DL.m_own); with_unfolding_all rfl); (with_reducible assumption); (with_reducible apply DL.set_goal; walk_at "nrm"); (with_reducible apply DL.k_nx); (with_reducible apply DL.s_if); (with_reducible apply DL.r_not); (with_reducible apply DL.r_test); (with_reducible apply DL.r_call); (with_reducible apply DL.a_val); (with_reducible apply DL.r_call); (with_reducible apply DL.a_val); rfl; (with_reducible exact DL.kp_fzE _ _); (with_reducible exact DL.a_nil); rfl; rfl; walk_at "ecall"; (with_reducible exact DL.kp_ownE _ _); (with_reducible apply DL.a_val); rfl; (with_reducible exact DL.kp_fzE _ _); (with_reducible exact DL.a_nil); rfl; rfl; walk_at "ecall"; ((with_reducible apply DL.p_f); with_unfolding_all rfl); (with_reducible exact DL.s_skip))
    · refine s_seq (δ1 := [.fz SC, .own (.lst R), .fz d, .fz (.int w), .own (.lst L), sl, .fz (.str T), .own (.lst l), .fz (.str y), s9, .no, .no]) ?_ ?_
      · apply s_asg
        · ((with_reducible apply DL.r_un); rfl; rfl; (with_reducible assumption))
        · exact set_fzV rfl n8 rfl
      · refine s_seq (δ1 := [.fz SC, .own (.lst R), .fz d, .fz (.int w), .fz (.list L), sl, .fz (.str T), .fz (.list l), .fz (.str y), s9, .no, .no]) ?_ ?_
        · ((with_reducible apply DL.s_if); (with_reducible apply DL.r_or); (with_reducible apply DL.r_test); (with_reducible apply DL.r_bin); (with_reducible apply DL.r_call); (with_reducible apply DL.a_val); rfl; ((with_reducible apply DL.kp_locO); with_unfolding_all rfl; walk_at "nrm"); (with_reducible exact DL.a_nil); rfl; rfl; walk_at "ecall"; rfl; (with_reducible exact DL.vw_fz _ _); (with_reducible exact DL.vw_fz _ _); (with_reducible assumption); ((with_reducible apply DL.p_f); with_unfolding_all rfl); (with_reducible apply DL.r_or); (with_reducible apply DL.r_test); (with_reducible apply DL.r_bin); (with_reducible apply DL.r_call); (with_reducible apply DL.a_val); rfl; ((with_reducible apply DL.kp_locO); with_unfolding_all rfl; walk_at "nrm"); (with_reducible exact DL.a_nil); rfl; rfl; walk_at "ecall"; rfl; (with_reducible exact DL.vw_fz _ _); (with_reducible exact DL.vw_fz _ _); (with_reducible assumption); ((with_reducible apply DL.p_f); with_unfolding_all rfl); (with_reducible apply DL.r_test); (with_reducible apply DL.r_bin); (with_reducible apply DL.r_un); rfl; (with_reducible exact DL.vw_fz _ _); (with_reducible assumption); rfl; (with_reducible exact DL.vw_fz _ _); (with_reducible exact DL.vw_fz _ _); (with_reducible assumption); ((with_reducible apply DL.p_f); with_unfolding_all rfl); (with_reducible exact DL.s_skip))
        · refine s_seq (δ1 := [.fz SC, .own (.lst R), .fz d, .fz (.int w), .fz (.list L), sl, .fz (.str T), .fz (.list l), .fz (.str y), .own (.lst L), .no, .no]) ?_ ?_
          · apply s_asg
            · ((with_reducible apply DL.r_call); (with_reducible apply DL.a_val); rfl; (with_reducible exact DL.kp_fzE _ _); (with_reducible exact DL.a_nil); rfl; rfl; walk_at "ecall")
            · exact set_ownV rfl n9 rfl
          · ((with_reducible apply DL.s_seqG); (with_reducible apply DL.s_if); (with_reducible apply DL.r_not); (with_reducible apply DL.r_test); (with_reducible apply DL.r_callR); (with_reducible apply DL.a_val); rfl; (with_reducible exact DL.kp_fzE _ _); (with_reducible exact DL.a_nil); rfl; rfl; rfl; rfl; walk_at "ecall"; (with_reducible apply DL.set_goal; walk_at "nrm"); ((with_reducible apply DL.p_f); with_unfolding_all rfl); (with_reducible exact DL.s_skip); (with_reducible apply DL.k_nx); (with_reducible apply DL.s_seqG); (with_reducible apply DL.s_app); rfl; (with_reducible apply DL.r_tup); (with_reducible apply DL.l_cons); (with_reducible exact DL.r_c); (with_reducible exact DL.kp_fzE _ _); (with_reducible apply DL.l_cons); (with_reducible exact DL.r_c); (with_reducible exact DL.kp_fzE _ _); (with_reducible exact DL.l_nil); (with_reducible apply DL.small_of; focus (first | omega | (simp <;> omega))); (with_reducible exact DL.kp_fzE _ _); ((with_reducible apply DL.m_own); with_unfolding_all rfl); (with_reducible assumption); (with_reducible apply DL.set_goal; walk_at "nrm"); (with_reducible apply DL.k_nx); (with_reducible apply DL.s_if); (with_reducible apply DL.r_not); (with_reducible apply DL.r_test); (with_reducible apply DL.r_call); (with_reducible apply DL.a_val); (with_reducible apply DL.r_call); (with_reducible apply DL.a_val); rfl; (with_reducible exact DL.kp_fzE _ _); (with_reducible exact DL.a_nil); rfl; rfl; walk_at "ecall"; (with_reducible exact DL.kp_ownE _ _); (with_reducible apply DL.a_val); rfl; (with_reducible exact DL.kp_fzE _ _); (with_reducible exact DL.a_nil); rfl; rfl; walk_at "ecall"; ((with_reducible apply DL.p_f); with_unfolding_all rfl); (with_reducible exact DL.s_skip))
  obtain ⟨V', rfl, hR⟩ := hR
  refine ⟨_, step_b (g_n (set_fzV rfl h2 rfl)) (s_seq hA (s_seq hB (s_seq hC (s_seq hD (s_seq hE hR))))), r6, .fz d, .fz (.int w), .fz (.list (es.map (encX false))), sl, .fz (.str (tx es)), _, .fz (.str y), _, rfl, q6.mono (by omega), rfl, rfl, rfl, f5, .inr ⟨_, _, _, _, rfl, rfl, rfl, rfl⟩⟩

theorem law_true (ns : List Int) (h : ns.length ≤ 63) : ∃ δ, d_law [.fz (.dict [(.none, .list (ns.map PyData.int))])] = .ok (.fz (.bool true)) δ := by
  obtain ⟨r, e1, hr⟩ := e_reel ns h
  have y1 : fLen (.dict [(.none, .list (ns.map PyData.int))]) = some (.fz (.int ((ns.map PyData.int).length : Nat))) := rfl
  have y2 : fMin2 (.int ((ns.map PyData.int).length : Nat)) (.int 15) = some (.fz (.int (if 15 < ((ns.map PyData.int).length : Int) then 15 else ((ns.map PyData.int).length : Int)))) := rfl
  have hq : 0 ≤ (if 15 < ((ns.map PyData.int).length : Int) then 15 else ((ns.map PyData.int).length : Int)) ∧ (if 15 < ((ns.map PyData.int).length : Int) then 15 else ((ns.map PyData.int).length : Int)) ≤ 15 := by split <;> omega
  generalize (if 15 < ((ns.map PyData.int).length : Int) then 15 else ((ns.map PyData.int).length : Int)) = q at y2 hq
  obtain ⟨δ', e2, r', s2, s3, s4, s5, s6, s7, s8, s9, rfl, _⟩ := for_idx (P := lawP (.dict [(.none, .list (ns.map PyData.int))])) (f := stepB (gN 2) tnB) ((List.range (1 + q).toNat).map fun (i : Nat) => PyData.int i) 0 (fun i d hd δ hP => by
    have hi := (List.getElem?_eq_some_iff.mp hd).1
    rw [List.length_map, List.length_range] at hi
    exact law_step (0 + i) (by omega) _ hP) [.fz (.dict [(.none, .list (ns.map PyData.int))]), .own (.lst (encR r)), .no, .no, .no, .no, .no, .no, .no, .no, .no, .no] ⟨r, .no, .no, .no, .no, .no, .no, .no, .no, rfl, by simpa using hr, rfl, rfl, rfl, .inl rfl, .inl ⟨rfl, rfl, rfl, rfl⟩⟩
  have h1 : (-1000000 : Int) ≤ 1 + q := by omega
  have h2 : 1 + q ≤ 1000000 := by omega
  refine ⟨[.no], ?_⟩
  generalize PyData.dict [(.none, .list (ns.map PyData.int))] = SC at *
  generalize (ns.map PyData.int).length = nn at *
  generalize encR r = G0 at *
  generalize encR r' = G1 at *
  apply run_b rfl
  · walk_at "nrm"
  · unfold sd_law
    ((with_reducible apply DL.s_seqG); (with_reducible apply DL.s_asg); (with_reducible apply DL.r_call); (with_reducible apply DL.a_val); rfl; (with_reducible exact DL.kp_fzE _ _); (with_reducible exact DL.a_nil); rfl; rfl; walk_at "ecall"; ((with_reducible apply DL.set_own); with_unfolding_all rfl; walk_at "nrm"); (with_reducible apply DL.k_nx); (with_reducible apply DL.s_seqG); (with_reducible apply DL.s_for); (with_reducible apply DL.i_r1); (with_reducible apply DL.l_cons); (with_reducible apply DL.r_bin); (with_reducible exact DL.r_c); (with_reducible apply DL.r_bin); (with_reducible apply DL.r_un); rfl; (with_reducible exact DL.vw_fz _ _); (with_reducible assumption); (with_reducible exact DL.r_c); (with_reducible exact DL.vw_fz _ _); (with_reducible exact DL.vw_fz _ _); (with_reducible assumption); (with_reducible exact DL.vw_fz _ _); (with_reducible exact DL.vw_fz _ _); rfl; (with_reducible exact DL.kp_fzE _ _); (with_reducible exact DL.l_nil); (with_reducible assumption); (with_reducible assumption); (with_reducible assumption); (with_reducible apply DL.k_nx); (with_reducible apply DL.s_ret); (with_reducible exact DL.r_c))
  all_goals rfl

end
end Lk55
open PySem PySem.W PyProof.Rows in
set_option maxRecDepth 100000 in
set_option maxHeartbeats 0 in
theorem PySem.Challenge.cw_changeride_k55_rides_written_holds : PySem.Challenge.rw_changeride_k55_rides_written.Holds := by
  w_on; o_law; o_head (He.hookX 4 Lk55.faL Lk55.fnL [] Lk55.tfL fun _ => true); (case hw => w_witness2)
  refine DL.walk_t (l := PySem.Challenge.rw_changeride_k55_rides_written) (n := 63) (k := 23) (x := "script") rfl (by decide) rfl ⟨rfl, by decide, by decide⟩ ?F
  case F =>
    intro w mg fa h Y G hmg
    obtain ⟨K, KX, c⟩ := Y
    exact ⟨K, KX, Lk55.all_tab (fun ns h => Lk55.law_true ns h) KX G hmg c⟩
