import PyProof.Rows.All
import Wide.All
import OpenK.AllK
import Wide.FinOn
import HandS.ForMost
import HandS.IsInst
import HandS.Gcd
import HandS.Flow
import HandS.StrMore
import HandS.FStr
import HandS.Dict
import HandS.Style
import HandS.WideBits
import HandS.Conv
import PyProof.Rows.BitMore
import KE.BitLaws
import HandS.ForExc
import HandS.ExcIs
import HandS.ExcCtx
import HandS.DictComp
import HandS.Small
import KE.SortData
import HandS.SetBool
import HandS.Strs
import HandS.Defaults
import HandS.Iter
import KE.DataMinMax
import HandS.Wide
import KE.KMathGC
import HandS.SetIn
import HandS.Deep
import HandS.ExcInit
import HandS.ExcField
import KE.KExcIs
import HandS.CallLocal
import HandS.HotCalls
import HandS.ExcInitHot
import HandS.ExcValue
import PySem.Challenge.RW_oddcrown_k00_errors_stand_apart
set_option Elab.async false
set_option linter.all false
set_option maxRecDepth 100000
set_option maxHeartbeats 2000000
/-! The data layer: what a def does to plain data, over the readings of the hand layer; no addresses in its statements. -/
namespace Dl
open PySem PySem.Spec PyProof.Rows L2
abbrev D := PyData
/-- a tuple's object: it never changes -/
def isTp : Option HO → Prop
  | some (.tup _) => True
  | some (.frz _ (.tup _)) => True
  | _ => False
/-- an object that is no tuple -/
def Ow (o : Option HO) : Prop := o ≠ none ∧ ¬ isTp o
theorem ow_lst {o : Option HO} {xs : List V} (h : o = some (.lst xs)) : Ow o := by
  subst h; exact ⟨Option.some_ne_none _, id⟩
theorem ow_dK {o : Option HO} {xs : List (Key × V)} (h : o = some (.dK xs)) : Ow o := by
  subst h; exact ⟨Option.some_ne_none _, id⟩
/-- the tuples stay -/
def TpS (H H' : Hp) : Prop := ∀ a, isTp (H a) → H' a = H a
theorem TpS.of {H H' : Hp} (s : Same H H') : TpS H H' := fun a h => by
  cases e : H a with
  | none => rw [e] at h; exact h.elim
  | some u => exact s a u e
theorem tps_upd {H : Hp} {p : Addr} {o : HO} (h : ¬ isTp (H p)) : TpS H (upd H p o) := fun a ha => by
  by_cases z : a = p
  · subst z; exact absurd ha h
  · exact upd_ne z
/-- G is what shared data stand on, H all; both grow; G takes new things in, and tuples -/
structure Ext (G H G' H' : Hp) : Prop where
  gg : Same G G'
  hh : Same H H'
  gh : Same G' H'
  nw : ∀ p, H p ≠ none → G p = none → G' p = none ∨ isTp (G' p)
theorem Ext.refl {G H : Hp} (h : Same G H) : Ext G H G H := ⟨Same.refl G, Same.refl H, h, fun _ _ e => .inl e⟩
theorem same_some {H H' : Hp} {p : Addr} (s : Same H H') (h : H p ≠ none) : H' p ≠ none := by
  cases e : H p with
  | none => exact absurd e h
  | some o => rw [s p o e]; exact fun z => by cases z
theorem Ext.trans {G H G1 H1 G2 H2 : Hp} (a : Ext G H G1 H1) (b : Ext G1 H1 G2 H2) : Ext G H G2 H2 :=
  ⟨a.gg.trans b.gg, a.hh.trans b.hh, b.gh, fun p h g => by
    rcases a.nw p h g with z | z
    · exact b.nw p (same_some a.hh h) z
    · exact .inr (by rw [TpS.of b.gg p z]; exact z)⟩
/-- what is own stays out of G -/
theorem Ext.nwO {G H G' H' : Hp} (E : Ext G H G' H') {p : Addr} (h : Ow (H p)) (g : G p = none) : G' p = none := by
  rcases E.nw p h.1 g with z | z
  · exact z
  · exfalso
    cases e : H p with
    | none => exact h.1 e
    | some u =>
      have e2 := E.hh p u e
      cases e3 : G' p with
      | none => rw [e3] at z; exact z
      | some o =>
        have e4 := E.gh p o e3
        rw [e2] at e4; cases e4
        rw [e3] at z
        exact h.2 (by rw [e]; exact z)
theorem Ext.nwL {G H G' H' : Hp} (E : Ext G H G' H') {p : Addr} {xs : List V} (h : H p = some (.lst xs)) (g : G p = none) : G' p = none := E.nwO (ow_lst h) g
theorem ow_same {H H' : Hp} {p : Addr} (s : Same H H') (h : Ow (H p)) : Ow (H' p) := by
  cases e : H p with
  | none => exact absurd e h.1
  | some u => rw [s p u e, ← e]; exact h
theorem same_upd {H : Hp} {p : Addr} {o : HO} (h : H p = none) : Same H (upd H p o) := fun b x e => by
  rw [upd_ne (ne_of_none e h)]
  exact e
/-- a new shared object -/
theorem Ext.new {G H : Hp} {p : Addr} {o : HO} (s : Same G H) (h : H p = none) : Ext G H (upd G p o) (upd H p o) := by
  have g : G p = none := s.free h
  refine ⟨same_upd g, same_upd h, fun b x e => ?_, fun q hq gq => ?_⟩
  · by_cases z : b = p
    · subst z; rw [upd_same] at e ⊢; exact e
    · rw [upd_ne z] at e ⊢; exact s b x e
  · have z : q ≠ p := fun e => hq (by rw [e]; exact h)
    rw [upd_ne z]; exact .inl gq
/-- a new object that is nobody's yet -/
theorem Ext.own {G H : Hp} {p : Addr} {o : HO} (s : Same G H) (h : H p = none) : Ext G H G (upd H p o) :=
  ⟨Same.refl G, same_upd h, s.trans (same_upd h), fun _ _ e => .inl e⟩

theorem rd_mono {H H' : Hp} {a : Addr} {u : HO} (e : Same H H') (h : Rd H a u) : Rd H' a u := by
  rcases h with h | ⟨o, h⟩
  · exact .inl (e _ _ h)
  · exact .inr ⟨o, e _ _ h⟩
mutual
/-- v is the data d, on the heap H -/
inductive Dp (K : PySem.W.Frag) (H : Hp) : V → PyData → Prop
  | non : Dp K H .non .none
  | bl (b : Bool) : Dp K H (.bl b) (.bool b)
  | int (i : Int) : Dp K H (.int i) (.int i)
  | str (x : Str) : Dp K H (.str x) (.str x)
  | lst {a : Addr} {xs : List V} {ds : List PyData} : H a = some (.lst xs) → DpAll K H xs ds → Dp K H (.ref a) (.list ds)
  | tup {a : Addr} {xs : List V} {ds : List PyData} : SqT K H a xs → DpAll K H xs ds → Dp K H (.ref a) (.tuple ds)
inductive DpAll (K : PySem.W.Frag) (H : Hp) : List V → List PyData → Prop
  | nil : DpAll K H [] []
  | cons {v : V} {vs : List V} {d : PyData} {ds : List PyData} : Dp K H v d → DpAll K H vs ds → DpAll K H (v :: vs) (d :: ds)
end
theorem sqt_mono {K : PySem.W.Frag} {H H' : Hp} {a : Addr} {xs : List V} (e : Same H H') (h : SqT K H a xs) : SqT K H' a xs := by
  rcases h with (h | ⟨o, h⟩) | h
  · exact .inl (.inl (e _ _ h))
  · exact .inl (.inr ⟨o, e _ _ h⟩)
  · exact .inr h
mutual
theorem dp_mono {K : PySem.W.Frag} {H H' : Hp} (e : Same H H') : ∀ (d : D) (v : V), Dp K H v d → Dp K H' v d
  | .none, _, h => by cases h; exact .non
  | .bool b, _, h => by cases h; exact .bl b
  | .int i, _, h => by cases h; exact .int i
  | .str x, _, h => by cases h; exact .str x
  | .list ds, _, h => by
    cases h with
    | lst hs ha => exact .lst (e _ _ hs) (dpa_mono e ds _ ha)
  | .tuple ds, _, h => by
    cases h with
    | tup hs ha => exact .tup (sqt_mono e hs) (dpa_mono e ds _ ha)
  | .dict _, _, h => by cases h
theorem dpa_mono {K : PySem.W.Frag} {H H' : Hp} (e : Same H H') : ∀ (ds : List D) (vs : List V), DpAll K H vs ds → DpAll K H' vs ds
  | [], _, h => by cases h; exact .nil
  | d :: ds, _, h => by
    cases h with
    | cons h1 h2 => exact .cons (dp_mono e d _ h1) (dpa_mono e ds _ h2)
end
mutual
theorem dp_lay {K : PySem.W.Frag} {H : Hp} : ∀ (d : D) (v : V), Dp K H v d → L2.Dp K H v d
  | .none, _, h => by cases h; exact .non
  | .bool b, _, h => by cases h; exact .bl b
  | .int i, _, h => by cases h; exact .int i
  | .str x, _, h => by cases h; exact .str x
  | .list ds, _, h => by
    cases h with
    | lst hs ha => exact .lst (.inl (.inl hs)) (dpa_lay ds _ ha)
  | .tuple ds, _, h => by
    cases h with
    | tup hs ha => exact .tup hs (dpa_lay ds _ ha)
  | .dict _, _, h => by cases h
theorem dpa_lay {K : PySem.W.Frag} {H : Hp} : ∀ (ds : List D) (vs : List V), DpAll K H vs ds → L2.DpAll K H vs ds
  | [], _, h => by cases h; exact .nil
  | d :: ds, _, h => by
    cases h with
    | cons h1 h2 => exact .cons (dp_lay d _ h1) (dpa_lay ds _ h2)
end
theorem dpa_len {K : PySem.W.Frag} {H : Hp} : ∀ {vs : List V} {ds : List D}, DpAll K H vs ds → vs.length = ds.length
  | _, _, .nil => rfl
  | _, _, .cons _ t => congrArg (· + 1) (dpa_len t)
theorem dpa_get {K : PySem.W.Frag} {H : Hp} : ∀ {vs : List V} {ds : List D} {i : Nat} {d : D}, DpAll K H vs ds → ds[i]? = some d → ∃ v, vs[i]? = some v ∧ Dp K H v d
  | _, _, _, _, .nil, e => by simp at e
  | _, _, 0, _, .cons r _, e => by simp at e; subst e; exact ⟨_, rfl, r⟩
  | _, _, i + 1, d, .cons _ t, e => by
    obtain ⟨v, h1, h2⟩ := dpa_get (i := i) (d := d) t (by simpa using e)
    exact ⟨v, by simpa using h1, h2⟩
theorem dpa_get' {K : PySem.W.Frag} {H : Hp} {vs : List V} {ds : List D} {i : Nat} {d : D} {v : V} (h : DpAll K H vs ds) (e : ds[i]? = some d) (ev : vs[i]? = some v) : Dp K H v d := by
  obtain ⟨u, h1, h2⟩ := dpa_get h e
  rw [ev] at h1; cases h1; exact h2
theorem dpa_app {K : PySem.W.Frag} {H : Hp} : ∀ {vs ws : List V} {ds es : List D}, DpAll K H vs ds → DpAll K H ws es → DpAll K H (vs ++ ws) (ds ++ es)
  | _, _, _, _, .nil, s => s
  | _, _, _, _, .cons r t, s => .cons r (dpa_app t s)
theorem dpa_take {K : PySem.W.Frag} {H : Hp} : ∀ {vs : List V} {ds : List D} (n : Nat), DpAll K H vs ds → DpAll K H (vs.take n) (ds.take n)
  | _, _, 0, _ => .nil
  | _, _, _ + 1, .nil => .nil
  | _, _, n + 1, .cons r t => .cons r (dpa_take n t)
theorem dpa_drop {K : PySem.W.Frag} {H : Hp} : ∀ {vs : List V} {ds : List D} (n : Nat), DpAll K H vs ds → DpAll K H (vs.drop n) (ds.drop n)
  | _, _, 0, r => r
  | _, _, _ + 1, .nil => .nil
  | _, _, n + 1, .cons _ t => dpa_drop n t
theorem dpa_set {K : PySem.W.Frag} {H : Hp} {v : V} {d : D} (r : Dp K H v d) : ∀ {vs : List V} {ds : List D} (i : Nat), DpAll K H vs ds → DpAll K H (vs.set i v) (ds.set i d)
  | _, _, _, .nil => .nil
  | _, _, 0, .cons _ t => .cons r t
  | _, _, i + 1, .cons q t => .cons q (dpa_set r i t)
theorem dpa_one {K : PySem.W.Frag} {H : Hp} {v : V} {d : D} (r : Dp K H v d) : DpAll K H [v] [d] := .cons r .nil
theorem dpa_ints {K : PySem.W.Frag} {H : Hp} : ∀ ns : List Int, DpAll K H (ns.map V.int) (ns.map PyData.int)
  | [] => .nil
  | n :: ns => .cons (.int n) (dpa_ints ns)

/-- data without an address -/
def atom : D → Bool
  | .none => true
  | .bool _ => true
  | .int _ => true
  | .str _ => true
  | _ => false
theorem dp_atom {K : PySem.W.Frag} {H H' : Hp} {v : V} : ∀ {d : D}, atom d = true → Dp K H v d → Dp K H' v d
  | .none, _, h => by cases h; exact .non
  | .bool b, _, h => by cases h; exact .bl b
  | .int i, _, h => by cases h; exact .int i
  | .str x, _, h => by cases h; exact .str x
  | .list _, e, _ => by cases e
  | .tuple _, e, _ => by cases e
  | .dict _, e, _ => by cases e
theorem dpa_atom {K : PySem.W.Frag} {H H' : Hp} : ∀ {vs : List V} {ds : List D}, ds.all atom = true → DpAll K H vs ds → DpAll K H' vs ds
  | _, _, _, .nil => .nil
  | _, _, e, .cons r t => by
    rw [List.all_cons, Bool.and_eq_true] at e
    exact .cons (dp_atom e.1 r) (dpa_atom e.2 t)

theorem sql_mono {K : PySem.W.Frag} {H H' : Hp} {a : Addr} {xs : List V} (e : Same H H') (h : SqL K H a xs) : SqL K H' a xs := e.seq h
theorem set_some {α : Type} {l : List α} {i j : Nat} {x y : α} (h : (l.set i x)[j]? = some y) : (i = j ∧ y = x ∧ i < l.length) ∨ (i ≠ j ∧ l[j]? = some y) := by
  by_cases e : i = j
  · subst e
    by_cases hl : i < l.length
    · rw [List.getElem?_set_self hl] at h; exact .inl ⟨rfl, (Option.some.inj h).symm, hl⟩
    · rw [List.getElem?_eq_none (by simpa using hl)] at h; cases h
  · rw [List.getElem?_set_ne e] at h; exact .inr ⟨e, h⟩
/-- what a slot is known to hold: v as seen on one heap; p in the state, over the base G and the heap H, with what it owns; sm: nothing is owned, and it is seen on the base -/
structure Sl where
  sm : Bool
  v : PySem.W.Frag → Hp → Option V → Prop
  p : PySem.W.Frag → Hp → Hp → Hp → Option V → List Addr → Prop
  vm : ∀ {K G G' o}, Same G G' → v K G o → v K G' o
  pm : ∀ {K H0 G G' H H' o S}, Same G G' → (∀ a ∈ S, H' a = H a) → TpS H H' → p K H0 G H o S → p K H0 G' H' o S
  pv : ∀ {K H0 G H o S}, Same H0 H → Same G H → p K H0 G H o S → v K H o
  pe : sm = true → ∀ {K H0 G H o S}, p K H0 G H o S ↔ S = [] ∧ v K G o
abbrev En := List Sl
/-- a slot that owns nothing -/
def Sl.plain (v : PySem.W.Frag → Hp → Option V → Prop) (vm : ∀ {K G G' o}, Same G G' → v K G o → v K G' o) : Sl where
  sm := true
  v := v
  p := fun K _ G _ o S => S = [] ∧ v K G o
  vm := vm
  pm := fun g _ _ h => ⟨h.1, vm g h.2⟩
  pv := fun _ g h => vm g h.2
  pe := fun _ => Iff.rfl
/-- nothing known -/
def Sl.un : Sl := .plain (fun _ _ _ => True) fun _ _ => trivial
/-- shared data -/
def Sl.sh (d : D) : Sl := .plain (fun K G o => ∃ v, o = some v ∧ Dp K G v d) fun g ⟨v, e, h⟩ => ⟨v, e, dp_mono g d v h⟩
/-- the script: a list of ints that is read -/
def Sl.sq (ns : List Int) : Sl := .plain (fun K G o => ∃ a, o = some (.ref a) ∧ SqL K G a (ns.map V.int)) fun g ⟨a, e, h⟩ => ⟨a, e, sql_mono g h⟩
/-- a list of its own, its items shared -/
def Sl.ow (ds : List D) : Sl where
  sm := false
  v := fun K G o => ∃ v, o = some v ∧ Dp K G v (.list ds)
  p := fun K _ G H o S => ∃ l xs, o = some (.ref l) ∧ S = [l] ∧ H l = some (.lst xs) ∧ DpAll K G xs ds
  vm := fun g ⟨v, e, h⟩ => ⟨v, e, dp_mono g _ v h⟩
  pm := fun g hs _ ⟨l, xs, e, es, hl, h⟩ => ⟨l, xs, e, es, (hs l (by rw [es]; simp)).trans hl, dpa_mono g ds xs h⟩
  pv := fun _ g ⟨l, xs, e, es, hl, h⟩ => ⟨.ref l, e, .lst hl (dpa_mono g ds xs h)⟩
  pe := fun h => by cases h
/-- the slots, for an expression: all data stand on G -/
structure SE (K : PySem.W.Frag) (env : En) (σ : L2.St) (G : Hp) : Prop where
  len : σ.length = env.length
  at' : ∀ (i : Nat) (s : Sl), env[i]? = some s → ∃ o, σ[i]? = some o ∧ s.v K G o
theorem SE.sh {K : PySem.W.Frag} {env : En} {σ : L2.St} {G : Hp} (s : SE K env σ G) (i : Nat) (d : D) (h : env[i]? = some (Sl.sh d)) : ∃ v, σ[i]? = some (some v) ∧ Dp K G v d := by
  obtain ⟨o, h1, v, rfl, h2⟩ := s.at' i _ h
  exact ⟨v, h1, h2⟩
theorem SE.ow {K : PySem.W.Frag} {env : En} {σ : L2.St} {G : Hp} (s : SE K env σ G) (i : Nat) (ds : List D) (h : env[i]? = some (Sl.ow ds)) : ∃ v, σ[i]? = some (some v) ∧ Dp K G v (.list ds) := by
  obtain ⟨o, h1, v, rfl, h2⟩ := s.at' i _ h
  exact ⟨v, h1, h2⟩
theorem SE.sq {K : PySem.W.Frag} {env : En} {σ : L2.St} {G : Hp} (s : SE K env σ G) (i : Nat) (ns : List Int) (h : env[i]? = some (Sl.sq ns)) : ∃ a, σ[i]? = some (some (.ref a)) ∧ SqL K G a (ns.map V.int) := by
  obtain ⟨o, h1, a, rfl, h2⟩ := s.at' i _ h
  exact ⟨a, h1, h2⟩
theorem SE.mono {K : PySem.W.Frag} {env : En} {σ : L2.St} {G G' : Hp} (s : SE K env σ G) (e : Same G G') : SE K env σ G' := ⟨s.len, fun i sl h => by
  obtain ⟨o, h1, h2⟩ := s.at' i sl h
  exact ⟨o, h1, sl.vm e h2⟩⟩
theorem SE.put {K : PySem.W.Frag} {env : En} {σ : L2.St} {G : Hp} (s : SE K env σ G) (i : Nat) {sl : Sl} {o : Option V} (h : sl.v K G o) : SE K (env.set i sl) (σ.set i o) G := by
  refine ⟨by rw [List.length_set, List.length_set, s.len], fun j e hj => ?_⟩
  rcases set_some hj with ⟨rfl, rfl, hl⟩ | ⟨ne, hj⟩
  · exact ⟨o, List.getElem?_set_self (by rw [s.len]; exact hl), h⟩
  · rw [List.getElem?_set_ne ne]; exact s.at' j e hj
theorem SE.set {K : PySem.W.Frag} {env : En} {σ : L2.St} {G : Hp} {v : V} {d : D} (s : SE K env σ G) (i : Nat) (h : Dp K G v d) : SE K (env.set i (.sh d)) (σ.set i (some v)) G := s.put i ⟨v, rfl, h⟩
def wipeE (env : En) : List Nat → En
  | [] => env
  | v :: vs => (wipeE env vs).set v .un
theorem SE.wipe {K : PySem.W.Frag} {env : En} {σ : L2.St} {G : Hp} (s : SE K env σ G) : ∀ vs, SE K (wipeE env vs) (L2.wipe σ vs) G
  | [] => s
  | i :: vs => (SE.wipe s vs).put i trivial
theorem wipe_get {σ : L2.St} {i : Nat} : ∀ {vs : List Nat}, (L2.wipe σ vs)[i]? = if i ∈ vs then (σ[i]?).map (fun _ => none) else σ[i]?
  | [] => by simp [L2.wipe]
  | v :: vs => by
    unfold L2.wipe
    by_cases e : v = i
    · subst e
      by_cases hl : v < (L2.wipe σ vs).length
      · rw [List.getElem?_set_self hl]
        rw [wipe_length] at hl
        simp [List.getElem?_eq_getElem hl]
      · rw [List.getElem?_eq_none (by simpa using hl)]
        rw [wipe_length] at hl
        simp [List.getElem?_eq_none (Nat.le_of_not_lt hl)]
    · rw [List.getElem?_set_ne e, wipe_get]
      have : i ≠ v := fun z => e z.symm
      simp [this]
theorem wipe_idem {σ : L2.St} {vs : List Nat} : L2.wipe (L2.wipe σ vs) vs = L2.wipe σ vs := by
  apply List.ext_getElem?
  intro i
  rw [wipe_get, wipe_get]
  by_cases h : i ∈ vs
  · simp only [h, if_true]; cases σ[i]? <;> rfl
  · simp only [h, if_false]
theorem wipe_set {σ : L2.St} {vs : List Nat} {i : Nat} {x : Option V} (h : i ∈ vs) : L2.wipe (σ.set i x) vs = L2.wipe σ vs := by
  apply List.ext_getElem?
  intro j
  rw [wipe_get, wipe_get]
  by_cases hj : j ∈ vs
  · simp only [hj, if_true]
    by_cases e : i = j
    · subst e
      by_cases hl : i < σ.length
      · rw [List.getElem?_set_self hl, List.getElem?_eq_getElem hl]; rfl
      · rw [List.getElem?_eq_none (by simpa using hl), List.getElem?_eq_none (by simpa using hl)]
    · rw [List.getElem?_set_ne e]
  · have e : i ≠ j := fun z => hj (z ▸ h)
    simp only [hj, if_false]
    rw [List.getElem?_set_ne e]

/-! ### expressions -/
def DV (K : PySem.W.Frag) (env : En) (t : TE) (r : Option D) : Prop := ∀ σ (G H : Hp) (Q : VK) d, SE K env σ G → Same G H → r = some d → (∀ v G' H', Ext G H G' H' → Dp K G' v d → Q v H') → t σ H Q
def DT (K : PySem.W.Frag) (env : En) (t : TT) (r : Option Bool) : Prop := ∀ σ (G H : Hp) (Q : Bool → Hp → Prop) b, SE K env σ G → Same G H → r = some b → (∀ G' H', Ext G H G' H' → Q b H') → t σ H Q
def DA (K : PySem.W.Frag) (env : En) (t : TA) (r : Option (List D)) : Prop := ∀ σ (G H : Hp) (Q : List V → Hp → Prop) ds, SE K env σ G → Same G H → r = some ds → (∀ vs G' H', Ext G H G' H' → DpAll K G' vs ds → Q vs H') → t σ H Q
def DO (K : PySem.W.Frag) (env : En) (t : TO) (r : Option (Option Int)) : Prop := ∀ σ (G H : Hp) (Q : Option Int → Hp → Prop) o, SE K env σ G → Same G H → r = some o → (∀ G' H', Ext G H G' H' → Q o H') → t σ H Q
/-- a new list, nobody's yet: it stands at p beside G -/
def DL (K : PySem.W.Frag) (env : En) (t : TE) (r : Option (List D)) : Prop := ∀ σ (G H : Hp) (Q : VK) ds, SE K env σ G → Same G H → r = some ds → (∀ p xs G' H', Ext G H G' H' → H p = none → G' p = none → H' p = some (.lst xs) → DpAll K G' xs ds → Q (.ref p) H') → t σ H Q
/-- an operation on two values, on one, on a list of values -/
def OpD (K : PySem.W.Frag) (r : R2) (f : D → D → Option D) : Prop := ∀ (G H : Hp) (Q : VK) x y d v w, Same G H → Dp K G v x → Dp K G w y → f x y = some d → (∀ v G' H', Ext G H G' H' → Dp K G' v d → Q v H') → r v w H Q
def UnD (K : PySem.W.Frag) (r : V → Hp → VK → Prop) (f : D → Option D) : Prop := ∀ (G H : Hp) (Q : VK) x d v, Same G H → Dp K G v x → f x = some d → (∀ v G' H', Ext G H G' H' → Dp K G' v d → Q v H') → r v H Q
def ClD (K : PySem.W.Frag) (r : List V → Hp → VK → Prop) (f : List D → Option D) : Prop := ∀ (G H : Hp) (Q : VK) xs d vs, Same G H → DpAll K G vs xs → f xs = some d → (∀ v G' H', Ext G H G' H' → Dp K G' v d → Q v H') → r vs H Q
def MtD (K : PySem.W.Frag) (r : V → List V → Hp → VK → Prop) (f : D → List D → Option D) : Prop := ∀ (G H : Hp) (Q : VK) x xs d v vs, Same G H → Dp K G v x → DpAll K G vs xs → f x xs = some d → (∀ v G' H', Ext G H G' H' → Dp K G' v d → Q v H') → r v vs H Q
/-- an operation that makes a new list -/
def ClL (K : PySem.W.Frag) (r : List V → Hp → VK → Prop) (f : List D → Option (List D)) : Prop := ∀ (G H : Hp) (Q : VK) xs ds vs, Same G H → DpAll K G vs xs → f xs = some ds → (∀ p ys G' H', Ext G H G' H' → H p = none → G' p = none → H' p = some (.lst ys) → DpAll K G' ys ds → Q (.ref p) H') → r vs H Q
def OpL (K : PySem.W.Frag) (r : R2) (f : D → D → Option (List D)) : Prop := ∀ (G H : Hp) (Q : VK) x y ds v w, Same G H → Dp K G v x → Dp K G w y → f x y = some ds → (∀ p ys G' H', Ext G H G' H' → H p = none → G' p = none → H' p = some (.lst ys) → DpAll K G' ys ds → Q (.ref p) H') → r v w H Q

/-! the mirrors' words -/
def op2 {α : Type} (f : D → D → Option α) (ra rb : Option D) : Option α := ra.bind fun x => rb.bind fun y => f x y
def consO (ra : Option D) (rA : Option (List D)) : Option (List D) := ra.bind fun x => rA.bind fun xs => some (x :: xs)
def newO (rA : Option (List D)) : Option D := rA.bind fun ds => some (.list ds)
def notT (rt : Option Bool) : Option Bool := rt.bind fun b => some (!b)
theorem bind_some {α β : Type} {r : Option α} {f : α → Option β} {d : β} (h : r.bind f = some d) : ∃ a, r = some a ∧ f a = some d := by
  cases r with
  | none => cases h
  | some a => exact ⟨a, rfl, h⟩

section
variable {K : PySem.W.Frag} {env : En} {ta tb tc te : TE} {tt tu : TT} {tA : TA} {ra rb rc : Option D} {rt ru : Option Bool} {rA : Option (List D)} {d : D}
theorem dv_var (i : Nat) {d : D} (h : env[i]? = some (Sl.sh d) := by rfl) : DV K env (tVar i) (some d) := fun σ G H Q x s g e q => by
  cases e
  obtain ⟨v, h1, h2⟩ := s.sh i d h
  exact ⟨v, h1, q v G H (Ext.refl g) h2⟩
/-- an own list, looked at -/
theorem dv_varO (i : Nat) {ds : List D} (h : env[i]? = some (Sl.ow ds) := by rfl) : DV K env (tVar i) (some (.list ds)) := fun σ G H Q x s g e q => by
  cases e
  obtain ⟨v, h1, h2⟩ := s.ow i ds h
  exact ⟨v, h1, q v G H (Ext.refl g) h2⟩
theorem dv_int (i : Int) : DV K env (tC (.int i)) (some (.int i)) := fun σ G H Q x s g e q => by
  cases e; exact q _ G H (Ext.refl g) (.int i)
theorem dv_bl (b : Bool) : DV K env (tC (.bl b)) (some (.bool b)) := fun σ G H Q x s g e q => by
  cases e; exact q _ G H (Ext.refl g) (.bl b)
theorem dv_non : DV K env (tC .non) (some .none) := fun σ G H Q x s g e q => by
  cases e; exact q _ G H (Ext.refl g) .non
theorem dv_str (z : Str) : DV K env (tC (.str z)) (some (.str z)) := fun σ G H Q x s g e q => by
  cases e; exact q _ G H (Ext.refl g) (.str z)
/-- a constant of the module -/
theorem dv_con {v : V} {d : D} (h : ∀ G, Dp K G v d) : DV K env (tC v) (some d) := fun σ G H Q x s g e q => by
  cases e; exact q _ G H (Ext.refl g) (h G)
theorem dv_op {r : R2} {f : D → D → Option D} (ho : OpD K r f) (ha : DV K env ta ra) (hb : DV K env tb rb) : DV K env (tOp r ta tb) (op2 f ra rb) := fun σ G H Q d s g e q => by
  obtain ⟨x, ex, e⟩ := bind_some e
  obtain ⟨y, ey, e⟩ := bind_some e
  refine ha σ G H _ x s g ex fun v G1 H1 E1 h1 => ?_
  refine hb σ G1 H1 _ y (s.mono E1.gg) E1.gh ey fun w G2 H2 E2 h2 => ?_
  exact ho G2 H2 Q x y d v w E2.gh (dp_mono E2.gg x v h1) h2 e fun u G3 H3 E3 h3 => q u G3 H3 ((E1.trans E2).trans E3) h3
theorem dv_un {r : V → Hp → VK → Prop} {f : D → Option D} (ho : UnD K r f) (ha : DV K env ta ra) : DV K env (tUn r ta) (ra.bind f) := fun σ G H Q d s g e q => by
  obtain ⟨x, ex, e⟩ := bind_some e
  refine ha σ G H _ x s g ex fun v G1 H1 E1 h1 => ?_
  exact ho G1 H1 Q x d v E1.gh h1 e fun u G3 H3 E3 h3 => q u G3 H3 (E1.trans E3) h3
theorem dl_op {r : R2} {f : D → D → Option (List D)} (ho : OpL K r f) (ha : DV K env ta ra) (hb : DV K env tb rb) : DL K env (tOp r ta tb) (op2 f ra rb) := fun σ G H Q d s g e q => by
  obtain ⟨x, ex, e⟩ := bind_some e
  obtain ⟨y, ey, e⟩ := bind_some e
  refine ha σ G H _ x s g ex fun v G1 H1 E1 h1 => ?_
  refine hb σ G1 H1 _ y (s.mono E1.gg) E1.gh ey fun w G2 H2 E2 h2 => ?_
  have E12 := E1.trans E2
  exact ho G2 H2 Q x y d v w E2.gh (dp_mono E2.gg x v h1) h2 e fun p ys G3 H3 E3 hp gp hl hd => q p ys G3 H3 (E12.trans E3) (E12.hh.free hp) gp hl hd
/-- a new list that is shared at once -/
theorem dv_new (h : DL K env te rA) : DV K env te (newO rA) := fun σ G H Q d s g e q => by
  obtain ⟨ds, e1, e2⟩ := bind_some e
  cases e2
  refine h σ G H Q ds s g e1 fun p xs G1 H1 E hp gp hl hd => ?_
  refine q (.ref p) (upd G1 p (.lst xs)) H1 ⟨E.gg.trans (same_upd gp), E.hh, fun b o eb => ?_, fun a ha ga => ?_⟩ (.lst upd_same (dpa_mono (same_upd gp) ds xs hd))
  · by_cases z : b = p
    · subst z; rw [upd_same] at eb; rw [hl]; exact eb
    · rw [upd_ne z] at eb; exact E.gh b o eb
  · have z : a ≠ p := fun z => ha (by rw [z]; exact hp)
    rw [upd_ne z]; exact E.nw a ha ga
theorem da_nil : DA K env tNil (some []) := fun σ G H Q x s g e q => by
  cases e; exact q [] G H (Ext.refl g) .nil
theorem da_cons (ha : DV K env ta ra) (hr : DA K env tA rA) : DA K env (tCons ta tA) (consO ra rA) := fun σ G H Q d s g e q => by
  obtain ⟨x, ex, e⟩ := bind_some e
  obtain ⟨xs, exs, e⟩ := bind_some e
  cases e
  refine ha σ G H _ x s g ex fun v G1 H1 E1 h1 => ?_
  refine hr σ G1 H1 _ xs (s.mono E1.gg) E1.gh exs fun vs G2 H2 E2 h2 => ?_
  exact q (v :: vs) G2 H2 (E1.trans E2) (.cons (dp_mono E2.gg x v h1) h2)
def szL (ds : List D) : Option (List D) := if ds.length ≤ sizeLine then some ds else none
theorem dl_lst (h : DA K env tA rA) : DL K env (tLst tA) (rA.bind szL) := fun σ G H Q d s g e q => by
  obtain ⟨ds, e1, e2⟩ := bind_some e
  unfold szL at e2
  by_cases hz : ds.length ≤ sizeLine
  · rw [if_pos hz] at e2; cases e2
    refine h σ G H _ d s g e1 fun vs G1 H1 E1 h1 => ⟨by rw [dpa_len h1]; exact hz, fun p hp => ?_⟩
    have gp : G1 p = none := E1.gh.free hp
    exact q p vs G1 _ (E1.trans (Ext.own E1.gh hp)) (E1.hh.free hp) gp upd_same h1
  · rw [if_neg hz] at e2; cases e2
def tupD (ds : List D) : Option D := if ds.length ≤ sizeLine then some (.tuple ds) else none
theorem dv_tup (h : DA K env tA rA) : DV K env (tTup tA) (rA.bind tupD) := fun σ G H Q d s g e q => by
  obtain ⟨ds, e1, e2⟩ := bind_some e
  unfold tupD at e2
  by_cases hz : ds.length ≤ sizeLine
  · rw [if_pos hz] at e2; cases e2
    refine h σ G H _ ds s g e1 fun vs G1 H1 E1 h1 => ⟨by rw [dpa_len h1]; exact hz, fun p hp => ?_⟩
    have gp : G1 p = none := E1.gh.free hp
    exact q (.ref p) (upd G1 p (.tup vs)) _ (E1.trans (Ext.new E1.gh hp)) (.tup (.inl (.inl upd_same)) (dpa_mono (same_upd gp) ds vs h1))
  · rw [if_neg hz] at e2; cases e2
/-! calls of what is built in; of a def -/
theorem dv_cb {r : List V → Hp → VK → Prop} {f : List D → Option D} (ho : ClD K r f) (h : DA K env tA rA) : DV K env (tCB r tA) (rA.bind f) := fun σ G H Q d s g e q => by
  obtain ⟨ds, e1, e2⟩ := bind_some e
  refine h σ G H _ ds s g e1 fun vs G1 H1 E1 h1 => ?_
  exact ho G1 H1 Q ds d vs E1.gh h1 e2 fun u G3 H3 E3 h3 => q u G3 H3 (E1.trans E3) h3
theorem dl_cb {r : List V → Hp → VK → Prop} {f : List D → Option (List D)} (ho : ClL K r f) (h : DA K env tA rA) : DL K env (tCB r tA) (rA.bind f) := fun σ G H Q d s g e q => by
  obtain ⟨ds, e1, e2⟩ := bind_some e
  refine h σ G H _ ds s g e1 fun vs G1 H1 E1 h1 => ?_
  exact ho G1 H1 Q ds d vs E1.gh h1 e2 fun p ys G3 H3 E3 hp gp hl hd => q p ys G3 H3 (E1.trans E3) (E1.hh.free hp) gp hl hd
/-- what a def promises: its mirror's data -/
def spD (K : PySem.W.Frag) (m : List D → Option D) : Sp := fun vs H Q _ => ∃ (G : Hp) (ds : List D) (d : D), Same G H ∧ DpAll K G vs ds ∧ m ds = some d ∧ ∀ v G' H', Ext G H G' H' → Dp K G' v d → Q v H'
theorem dv_call {m : List D → Option D} {E : XK} (h : DA K env tA rA) : DV K env (tCall (spD K m) [] E tA) (rA.bind m) := fun σ G H Q d s g e q => by
  obtain ⟨ds, e1, e2⟩ := bind_some e
  refine h σ G H _ ds s g e1 fun vs G1 H1 E1 h1 => ?_
  refine ⟨G1, ds, d, E1.gh, by rw [List.append_nil]; exact h1, e2, fun u G3 H3 E3 h3 => q u G3 H3 (E1.trans E3) h3⟩
theorem spD_len {m : List D → Option D} {n : Nat} (hm : ∀ ds, ds.length ≠ n → m ds = none) {vs : List V} {H : Hp} {Q : VK} {E : XK} (h : spD K m vs H Q E) : vs.length = n := by
  obtain ⟨G, ds, d, _, ha, e, _⟩ := h
  rw [dpa_len ha]
  by_cases z : ds.length = n
  · exact z
  · rw [hm ds z] at e; cases e
/-! tests and the like -/
def asB : D → Option Bool
  | .bool b => some b
  | _ => none
theorem asB_some {d : D} {b : Bool} (h : asB d = some b) : d = .bool b := by
  cases d <;> first | (cases h; done) | (cases h; rfl)
theorem dt_test (h : DV K env te ra) : DT K env (tTest te) (ra.bind asB) := fun σ G H Q b s g e q => by
  obtain ⟨x, ex, e⟩ := bind_some e
  have := asB_some e; subst this
  refine h σ G H _ _ s g ex fun v G1 H1 E1 h1 => ?_
  cases h1
  exact ⟨b, rfl, q G1 H1 E1⟩
theorem dt_b (h : DV K env te ra) : DT K env (tB te) (ra.bind asB) := dt_test h
def andT (r u : Option Bool) : Option Bool := r.bind fun b => if b = true then u else some false
def orT (r u : Option Bool) : Option Bool := r.bind fun b => if b = true then some true else u
theorem dt_and (h : DT K env tt rt) (k : DT K env tu ru) : DT K env (tAnd tt tu) (andT rt ru) := fun σ G H Q b s g e q => by
  obtain ⟨x, ex, e⟩ := bind_some e
  refine h σ G H _ x s g ex fun G1 H1 E1 => ?_
  cases x with
  | true => rw [if_pos rfl] at e ⊢; exact k σ G1 H1 Q b (s.mono E1.gg) E1.gh e fun G2 H2 E2 => q G2 H2 (E1.trans E2)
  | false => rw [if_neg Bool.false_ne_true] at e ⊢; cases e; exact q G1 H1 E1
theorem dt_or (h : DT K env tt rt) (k : DT K env tu ru) : DT K env (tOr tt tu) (orT rt ru) := fun σ G H Q b s g e q => by
  obtain ⟨x, ex, e⟩ := bind_some e
  refine h σ G H _ x s g ex fun G1 H1 E1 => ?_
  cases x with
  | true => rw [if_pos rfl] at e ⊢; cases e; exact q G1 H1 E1
  | false => rw [if_neg Bool.false_ne_true] at e ⊢; exact k σ G1 H1 Q b (s.mono E1.gg) E1.gh e fun G2 H2 E2 => q G2 H2 (E1.trans E2)
theorem dt_not (h : DT K env tt rt) : DT K env (tNot tt) (notT rt) := fun σ G H Q b s g e q => by
  obtain ⟨x, ex, e⟩ := bind_some e
  cases e
  exact h σ G H _ x s g ex fun G1 H1 E1 => q G1 H1 E1
def andV (r u : Option D) : Option D := (r.bind asB).bind fun b => if b = true then u else some (.bool false)
def orV (r u : Option D) : Option D := (r.bind asB).bind fun b => if b = true then some (.bool true) else u
theorem dv_and (h : DV K env ta ra) (k : DV K env tb rb) : DV K env (tAndV ta tb) (andV ra rb) := fun σ G H Q d s g e q => by
  obtain ⟨b, ex, e⟩ := bind_some e
  obtain ⟨x, ex, eb⟩ := bind_some ex
  have := asB_some eb; subst this
  refine h σ G H _ _ s g ex fun v G1 H1 E1 h1 => ?_
  cases h1
  refine ⟨b, rfl, ?_⟩
  cases b with
  | true => rw [if_pos rfl] at e ⊢; exact k σ G1 H1 Q d (s.mono E1.gg) E1.gh e fun v G2 H2 E2 h2 => q v G2 H2 (E1.trans E2) h2
  | false => rw [if_neg Bool.false_ne_true] at e ⊢; cases e; exact q _ G1 H1 E1 (.bl false)
theorem dv_or (h : DV K env ta ra) (k : DV K env tb rb) : DV K env (tOrV ta tb) (orV ra rb) := fun σ G H Q d s g e q => by
  obtain ⟨b, ex, e⟩ := bind_some e
  obtain ⟨x, ex, eb⟩ := bind_some ex
  have := asB_some eb; subst this
  refine h σ G H _ _ s g ex fun v G1 H1 E1 h1 => ?_
  cases h1
  refine ⟨b, rfl, ?_⟩
  cases b with
  | true => rw [if_pos rfl] at e ⊢; cases e; exact q _ G1 H1 E1 (.bl true)
  | false => rw [if_neg Bool.false_ne_true] at e ⊢; exact k σ G1 H1 Q d (s.mono E1.gg) E1.gh e fun v G2 H2 E2 h2 => q v G2 H2 (E1.trans E2) h2
def notV (ra : Option D) : Option D := (ra.bind asB).bind fun b => some (.bool (!b))
theorem dv_not (h : DV K env ta ra) : DV K env (tNotV ta) (notV ra) := fun σ G H Q d s g e q => by
  obtain ⟨b, ex, e⟩ := bind_some e
  obtain ⟨x, ex, eb⟩ := bind_some ex
  have := asB_some eb; subst this
  cases e
  refine h σ G H _ _ s g ex fun v G1 H1 E1 h1 => ?_
  cases h1
  exact ⟨b, rfl, q _ G1 H1 E1 (.bl _)⟩
def iteV (c : Option Bool) (r u : Option D) : Option D := c.bind fun b => if b = true then r else u
theorem dv_ite (c : DT K env tt rt) (h : DV K env ta ra) (k : DV K env tb rb) : DV K env (tIf tt ta tb) (iteV rt ra rb) := fun σ G H Q d s g e q => by
  obtain ⟨b, eb, e⟩ := bind_some e
  refine c σ G H _ b s g eb fun G1 H1 E1 => ?_
  cases b with
  | true => rw [if_pos rfl] at e ⊢; exact h σ G1 H1 Q d (s.mono E1.gg) E1.gh e fun v G2 H2 E2 h2 => q v G2 H2 (E1.trans E2) h2
  | false => rw [if_neg Bool.false_ne_true] at e ⊢; exact k σ G1 H1 Q d (s.mono E1.gg) E1.gh e fun v G2 H2 E2 h2 => q v G2 H2 (E1.trans E2) h2
/-- a chain a op b op' c -/
def chV (f g : D → D → Option D) (ra rb rc : Option D) : Option D := ra.bind fun x => rb.bind fun y => (f x y).bind fun z => (asB z).bind fun b => if b = true then rc.bind fun w => g y w else some (.bool false)
theorem dv_chain {r r' : R2} {f g : D → D → Option D} (ho : OpD K r f) (ho' : OpD K r' g) (ha : DV K env ta ra) (hb : DV K env tb rb) (hc : DV K env tc rc) : DV K env (tChain r r' ta tb tc) (chV f g ra rb rc) := fun σ G H Q d s gh e q => by
  obtain ⟨x, ex, e1⟩ := bind_some e
  obtain ⟨y, ey, e2⟩ := bind_some e1
  obtain ⟨z, ez, e3⟩ := bind_some e2
  obtain ⟨b, eb, e4⟩ := bind_some e3
  clear e e1 e2 e3
  have := asB_some eb; subst this
  clear eb
  refine ha σ G H _ x s gh ex fun v G1 H1 E1 h1 => ?_
  refine hb σ G1 H1 _ y (s.mono E1.gg) E1.gh ey fun w G2 H2 E2 h2 => ?_
  refine ho G2 H2 _ x y _ v w E2.gh (dp_mono E2.gg x v h1) h2 ez fun u G3 H3 E3 h3 => ?_
  cases h3
  have E13 := (E1.trans E2).trans E3
  refine ⟨b, rfl, ?_⟩
  cases b with
  | true =>
    rw [if_pos rfl] at e4 ⊢
    obtain ⟨w', ew, e5⟩ := bind_some e4
    refine hc σ G3 H3 _ w' (s.mono E13.gg) E3.gh ew fun u' G4 H4 E4 h4 => ?_
    exact ho' G4 H4 Q y w' d w u' E4.gh (dp_mono (E3.gg.trans E4.gg) y w h2) h4 e5 fun v5 G5 H5 E5 h5 => q v5 G5 H5 ((E13.trans E4).trans E5) h5
  | false => rw [if_neg Bool.false_ne_true] at e4 ⊢; cases e4; exact q _ G3 H3 E13 (.bl false)
end
end Dl

set_option Elab.async false
set_option linter.all false
set_option maxRecDepth 100000
set_option maxHeartbeats 2000000
namespace Dl
open PySem PySem.Spec PyProof.Rows L2
/-! ### what is walked -/
structure ItOk (K : PySem.W.Frag) (G : Hp) (J : It) (ds : List D) : Prop where
  go : ∀ (G1 H1 : Hp) (i : Nat), Same G G1 → Same G1 H1 → i < ds.length → J.go i H1
  yl : ∀ (G1 H1 : Hp) (i : Nat) (x : V) (H2 : Hp) (d : D), Same G G1 → Same G1 H1 → ds[i]? = some d → J.yld i H1 x H2 → ∃ G2, Ext G1 H1 G2 H2 ∧ Dp K G2 x d
  stop : ∀ (G1 H1 : Hp) (i : Nat), Same G G1 → Same G1 H1 → ds.length ≤ i → J.stop i H1
def DI (K : PySem.W.Frag) (env : En) (w : TI) (r : Option (List D)) : Prop := ∀ σ (G H : Hp) (R : It → Hp → Prop) ds, SE K env σ G → Same G H → r = some ds → (∀ J G' H', Ext G H G' H' → ItOk K G' J ds → R J H') → w σ H R
def asL : D → Option (List D)
  | .list ds => some ds
  | _ => none
def asU : D → Option (List D)
  | .tuple ds => some ds
  | _ => none
theorem asL_some {d : D} {ds : List D} (h : asL d = some ds) : d = .list ds := by
  cases d <;> first | (cases h; done) | (cases h; rfl)
theorem asU_some {d : D} {ds : List D} (h : asU d = some ds) : d = .tuple ds := by
  cases d <;> first | (cases h; done) | (cases h; rfl)
theorem it_list {K : PySem.W.Frag} {G : Hp} {a : Addr} {xs : List V} {ds : List D} (hs : SqL K G a xs) (hd : DpAll K G xs ds) : ItOk K G (Itl K a) ds where
  go := fun G1 H1 i g h hi => by
    have hl : i < xs.length := by rw [dpa_len hd]; exact hi
    exact ⟨xs, xs[i], h.seq (g.seq hs), List.getElem?_eq_getElem hl⟩
  yl := fun G1 H1 i x H2 d g h hi hy => by
    obtain ⟨rfl, hx⟩ := hy
    exact ⟨G1, Ext.refl h, dp_mono g d x (dpa_get' hd hi (hx xs (h.seq (g.seq hs))))⟩
  stop := fun G1 H1 i g h hi => ⟨xs, h.seq (g.seq hs), by rw [dpa_len hd]; exact hi⟩
theorem it_tup {K : PySem.W.Frag} {G : Hp} {a : Addr} {xs : List V} {ds : List D} (hs : SqT K G a xs) (hd : DpAll K G xs ds) : ItOk K G (Itt K a) ds where
  go := fun G1 H1 i g h hi => by
    have hl : i < xs.length := by rw [dpa_len hd]; exact hi
    exact ⟨xs, xs[i], sqt_mono h (sqt_mono g hs), List.getElem?_eq_getElem hl⟩
  yl := fun G1 H1 i x H2 d g h hi hy => by
    obtain ⟨rfl, hx⟩ := hy
    exact ⟨G1, Ext.refl h, dp_mono g d x (dpa_get' hd hi (hx xs (sqt_mono h (sqt_mono g hs))))⟩
  stop := fun G1 H1 i g h hi => ⟨xs, sqt_mono h (sqt_mono g hs), by rw [dpa_len hd]; exact hi⟩
def rngD (lo : Int) (n : Nat) : List D := (List.range n).map fun (k : Nat) => .int (lo + k)
theorem it_rng {K : PySem.W.Frag} {G : Hp} {lo : Int} {n : Nat} : ItOk K G (Itr lo n) (rngD lo n) where
  go := fun G1 H1 i g h hi => by
    unfold rngD at hi
    rw [List.length_map, List.length_range] at hi; exact hi
  yl := fun G1 H1 i x H2 d g h hi hy => by
    obtain ⟨rfl, hx⟩ := hy
    unfold rngD at hi
    rw [List.getElem?_map] at hi
    by_cases hl : i < n
    · rw [List.getElem?_range hl] at hi
      cases hi; rw [hx]
      exact ⟨G1, Ext.refl h, .int _⟩
    · rw [List.getElem?_eq_none (by rw [List.length_range]; omega)] at hi; cases hi
  stop := fun G1 H1 i g h hi => by
    unfold rngD at hi
    rw [List.length_map, List.length_range] at hi; exact hi
def strD (z : Str) : List D := z.cps.toList.map fun c => .str ⟨#[c]⟩
theorem it_str {K : PySem.W.Frag} {G : Hp} {z : Str} : ItOk K G (Its z) (strD z) where
  go := fun G1 H1 i g h hi => by
    unfold strD at hi
    rw [List.length_map, Array.length_toList] at hi; exact hi
  yl := fun G1 H1 i x H2 d g h hi hy => by
    obtain ⟨rfl, c, hc, rfl⟩ := hy
    unfold strD at hi
    rw [List.getElem?_map] at hi
    rw [← Array.getElem?_toList] at hc
    rw [hc] at hi
    cases hi
    exact ⟨G1, Ext.refl h, .str _⟩
  stop := fun G1 H1 i g h hi => by
    unfold strD at hi
    rw [List.length_map, Array.length_toList] at hi; exact hi
def enumD (k : Nat) : List D → List D
  | [] => []
  | d :: ds => .tuple [.int k, d] :: enumD (k + 1) ds
theorem enumD_len : ∀ (ds : List D) (k : Nat), (enumD k ds).length = ds.length
  | [], _ => rfl
  | _ :: ds, k => congrArg (· + 1) (enumD_len ds (k + 1))
theorem enumD_get : ∀ (ds : List D) (k i : Nat), (enumD k ds)[i]? = (ds[i]?).map fun d => .tuple [.int ((k + i : Nat) : Int), d]
  | [], _, _ => by simp [enumD]
  | d :: ds, k, 0 => by simp [enumD]
  | d :: ds, k, i + 1 => by
    simp only [enumD, List.getElem?_cons_succ]
    rw [enumD_get ds (k + 1) i]
    have : k + 1 + i = k + (i + 1) := by omega
    rw [this]
theorem it_enum {K : PySem.W.Frag} {G : Hp} {a : Addr} {xs : List V} {ds : List D} (hs : SqL K G a xs) (hd : DpAll K G xs ds) : ItOk K G (Ite K a) (enumD 0 ds) where
  go := fun G1 H1 i g h hi => by
    rw [enumD_len] at hi
    have hl : i < xs.length := by rw [dpa_len hd]; exact hi
    exact ⟨xs, xs[i], h.seq (g.seq hs), List.getElem?_eq_getElem hl⟩
  yl := fun G1 H1 i x H2 d g h hi hy => by
    obtain ⟨T, y, rfl, hT, rfl, hx⟩ := hy
    rw [enumD_get] at hi
    cases e : ds[i]? with
    | none => rw [e] at hi; cases hi
    | some dd =>
      rw [e] at hi; cases hi
      have ex := hx xs (h.seq (g.seq hs))
      have gT : G1 T = none := h.free hT
      refine ⟨_, Ext.new h hT, .tup (.inl (.inl upd_same)) (.cons ?_ (.cons (dp_mono (g.trans (same_upd gT)) dd y (dpa_get' hd e ex)) .nil))⟩
      rw [Nat.zero_add]; exact .int _
  stop := fun G1 H1 i g h hi => by
    rw [enumD_len] at hi
    exact ⟨xs, h.seq (g.seq hs), by rw [dpa_len hd]; exact hi⟩
def zipD : List D → List D → List D
  | d :: ds, e :: es => .tuple [d, e] :: zipD ds es
  | _, _ => []
theorem zipD_get : ∀ (ds es : List D) (i : Nat), (zipD ds es)[i]? = (ds[i]?).bind fun d => (es[i]?).map fun e => .tuple [d, e]
  | [], _, _ => by simp [zipD]
  | d :: ds, [], i => by cases i <;> simp [zipD]
  | d :: ds, e :: es, 0 => by simp [zipD]
  | d :: ds, e :: es, i + 1 => by
    simp only [zipD, List.getElem?_cons_succ]
    exact zipD_get ds es i
theorem zipD_len : ∀ (ds es : List D), (zipD ds es).length = min ds.length es.length
  | [], _ => by simp [zipD]
  | _ :: _, [] => by simp [zipD]
  | d :: ds, e :: es => by
    simp only [zipD, List.length_cons, zipD_len ds es]; omega
theorem it_zip {K : PySem.W.Frag} {G : Hp} {a b : Addr} {xs ys : List V} {ds es : List D} (hs : SqL K G a xs) (hd : DpAll K G xs ds) (hs2 : SqL K G b ys) (hd2 : DpAll K G ys es) : ItOk K G (Itz K a b) (zipD ds es) where
  go := fun G1 H1 i g h hi => by
    rw [zipD_len] at hi
    have h1 : i < xs.length := by rw [dpa_len hd]; omega
    have h2 : i < ys.length := by rw [dpa_len hd2]; omega
    exact ⟨xs, ys, xs[i], ys[i], h.seq (g.seq hs), h.seq (g.seq hs2), List.getElem?_eq_getElem h1, List.getElem?_eq_getElem h2⟩
  yl := fun G1 H1 i x H2 d g h hi hy => by
    obtain ⟨T, y, z, rfl, hT, rfl, hx, hx2⟩ := hy
    rw [zipD_get] at hi
    obtain ⟨d1, e1, hi⟩ := bind_some hi
    cases e2 : es[i]? with
    | none => rw [e2] at hi; cases hi
    | some d2 =>
      rw [e2] at hi; cases hi
      have ex := hx xs (h.seq (g.seq hs))
      have ex2 := hx2 ys (h.seq (g.seq hs2))
      have gT : G1 T = none := h.free hT
      have gm := g.trans (same_upd (o := HO.tup [y, z]) gT)
      exact ⟨_, Ext.new h hT, .tup (.inl (.inl upd_same)) (.cons (dp_mono gm d1 y (dpa_get' hd e1 ex)) (.cons (dp_mono gm d2 z (dpa_get' hd2 e2 ex2)) .nil))⟩
  stop := fun G1 H1 i g h hi => by
    rw [zipD_len] at hi
    refine ⟨xs, ys, h.seq (g.seq hs), h.seq (g.seq hs2), ?_⟩
    rw [dpa_len hd, dpa_len hd2]; omega
/-- within 2^62 either way (by Nat.ble: nothing is counted down) -/
def okR : Int → Bool
  | .ofNat n => Nat.ble n 4611686018427387903
  | .negSucc n => Nat.ble n 4611686018427387902
theorem okR_of {i : Int} (h : okR i = true) : -(2 ^ 62) ≤ i ∧ i < 2 ^ 62 := by
  cases i with
  | ofNat n =>
    have := Nat.le_of_ble_eq_true h
    show -(2 ^ 62) ≤ (n : Int) ∧ (n : Int) < 2 ^ 62
    omega
  | negSucc n => have := Nat.le_of_ble_eq_true h; omega
theorem okR_by {i : Int} (h : -1000000000000 ≤ i ∧ i ≤ 1000000000000) : okR i = true := by
  cases i with
  | ofNat n =>
    have h' : -1000000000000 ≤ (n : Int) ∧ (n : Int) ≤ 1000000000000 := h
    exact Nat.ble_eq_true_of_le (by omega)
  | negSucc n => exact Nat.ble_eq_true_of_le (by omega)
def rng1D : List D → Option (List D)
  | [.int j] => if okR j = true then some (rngD 0 j.toNat) else none
  | _ => none
def rng2D : List D → Option (List D)
  | [.int i, .int j] => if (okR i && okR j) = true then some (rngD i (j - i).toNat) else none
  | _ => none
def asS : D → Option Str
  | .str z => some z
  | _ => none
def strO (ra : Option D) : Option (List D) := (ra.bind asS).bind fun z => some (strD z)
def enum1D : List D → Option (List D)
  | [.list ds] => some (enumD 0 ds)
  | _ => none
def zip2D : List D → Option (List D)
  | [.list ds, .list es] => some (zipD ds es)
  | _ => none
section
variable {K : PySem.W.Frag} {env : En} {te : TE} {tA : TA} {ra : Option D} {rA : Option (List D)}
theorem di_list (h : DV K env te ra) : DI K env (iList K te) (ra.bind asL) := fun σ G H R ds s g e q => by
  obtain ⟨x, ex, e⟩ := bind_some e
  have := asL_some e; subst this
  refine h σ G H _ _ s g ex fun v G1 H1 E1 h1 => ?_
  cases h1 with
  | lst hs hd => exact ⟨_, rfl, ⟨_, .inl (rd_mono E1.gh (.inl hs))⟩, q _ G1 H1 E1 (it_list (.inl (.inl hs)) hd)⟩
/-- over the script -/
theorem di_scr (i : Nat) {ns : List Int} (h : env[i]? = some (Sl.sq ns) := by rfl) : DI K env (iList K (tVar i)) (some (ns.map PyData.int)) := fun σ G H R ds s g e q => by
  cases e
  obtain ⟨a, h1, h2⟩ := s.sq i ns h
  exact ⟨.ref a, h1, a, rfl, ⟨_, g.seq h2⟩, q _ G H (Ext.refl g) (it_list h2 (dpa_ints ns))⟩
theorem di_tup (h : DV K env te ra) : DI K env (iTup K te) (ra.bind asU) := fun σ G H R ds s g e q => by
  obtain ⟨x, ex, e⟩ := bind_some e
  have := asU_some e; subst this
  refine h σ G H _ _ s g ex fun v G1 H1 E1 h1 => ?_
  cases h1 with
  | tup hs hd => exact ⟨_, rfl, ⟨_, sqt_mono E1.gh hs⟩, q _ G1 H1 E1 (it_tup hs hd)⟩
theorem di_str (h : DV K env te ra) : DI K env (iStr te) (strO ra) := fun σ G H R ds s g e q => by
  obtain ⟨z, ez, e⟩ := bind_some e
  obtain ⟨x, ex, ez⟩ := bind_some ez
  have : x = .str z := by cases x <;> first | (cases ez; done) | (cases ez; rfl)
  subst this; cases e
  refine h σ G H _ _ s g ex fun v G1 H1 E1 h1 => ?_
  cases h1
  exact ⟨z, rfl, q _ G1 H1 E1 it_str⟩
theorem di_rng1 (h : DA K env tA rA) : DI K env (iRng1 tA) (rA.bind rng1D) := fun σ G H R ds s g e q => by
  obtain ⟨x, ex, e⟩ := bind_some e
  refine h σ G H _ _ s g ex fun vs G1 H1 E1 h1 => ?_
  match x, h1, e with
  | [.int j], h1, e =>
    replace e : (if okR j = true then some (rngD 0 j.toNat) else none) = some ds := e
    by_cases hb : okR j = true
    · rw [if_pos hb] at e; cases e
      replace hb := okR_of hb
      cases h1 with
      | cons r t => cases r; cases t; exact ⟨j, rfl, hb.1, hb.2, q _ G1 H1 E1 it_rng⟩
    · rw [if_neg hb] at e; cases e
theorem di_rng2 (h : DA K env tA rA) : DI K env (iRng2 tA) (rA.bind rng2D) := fun σ G H R ds s g e q => by
  obtain ⟨x, ex, e⟩ := bind_some e
  refine h σ G H _ _ s g ex fun vs G1 H1 E1 h1 => ?_
  match x, h1, e with
  | [.int i, .int j], h1, e =>
    replace e : (if (okR i && okR j) = true then some (rngD i (j - i).toNat) else none) = some ds := e
    by_cases hb : (okR i && okR j) = true
    · rw [if_pos hb] at e; cases e
      rw [Bool.and_eq_true] at hb
      replace hb : -(2 ^ 62) ≤ i ∧ i < 2 ^ 62 ∧ -(2 ^ 62) ≤ j ∧ j < 2 ^ 62 := ⟨(okR_of hb.1).1, (okR_of hb.1).2, okR_of hb.2⟩
      cases h1 with
      | cons r t => cases r; cases t with
        | cons r t => cases r; cases t; exact ⟨i, j, rfl, hb, q _ G1 H1 E1 it_rng⟩
    · rw [if_neg hb] at e; cases e
theorem di_enum (h : DA K env tA rA) : DI K env (iEnum K tA) (rA.bind enum1D) := fun σ G H R ds s g e q => by
  obtain ⟨x, ex, e⟩ := bind_some e
  refine h σ G H _ _ s g ex fun vs G1 H1 E1 h1 => ?_
  match x, h1, e with
  | [.list es], h1, e =>
    cases e
    cases h1 with
    | cons r t => cases t; cases r with
      | lst hs hd => exact ⟨_, _, rfl, .inl (rd_mono E1.gh (.inl hs)), q _ G1 H1 E1 (it_enum (.inl (.inl hs)) hd)⟩
theorem di_zip (h : DA K env tA rA) : DI K env (iZip K tA) (rA.bind zip2D) := fun σ G H R ds s g e q => by
  obtain ⟨x, ex, e⟩ := bind_some e
  refine h σ G H _ _ s g ex fun vs G1 H1 E1 h1 => ?_
  match x, h1, e with
  | [.list es, .list fs], h1, e =>
    cases e
    cases h1 with
    | cons r t => cases r with
      | lst hs hd => cases t with
        | cons r t => cases t; cases r with
          | lst hs2 hd2 => exact ⟨_, _, _, _, rfl, .inl (rd_mono E1.gh (.inl hs)), .inl (rd_mono E1.gh (.inl hs2)), q _ G1 H1 E1 (it_zip (.inl (.inl hs)) hd (.inl (.inl hs2)) hd2)⟩
end
/-! ### targets: what a for binds -/
/-- g binds the data x: only slots of vs change -/
def BG (K : PySem.W.Frag) (g : TG) (vs : List Nat) (b : En → D → Option En) : Prop :=
  ∀ (env env' : En) (σ : L2.St) (G H : Hp) (v : V) (x : D) (Q : L2.St → Hp → Prop), SE K env σ G → Same G H → Dp K G v x → b env x = some env' →
    (∀ σ2, SE K env' σ2 G → (∀ ws, (∀ i ∈ vs, i ∈ ws) → L2.wipe σ2 ws = L2.wipe σ ws) → (∀ i, i ∉ vs → σ2[i]? = σ[i]? ∧ env'[i]? = env[i]?) → Q σ2 H) → g v σ H Q
def BGs (K : PySem.W.Frag) (g : TGs) (vs : List Nat) (b : En → List D → Option En) : Prop :=
  ∀ (env env' : En) (σ : L2.St) (G H : Hp) (us : List V) (xs : List D) (Q : L2.St → Hp → Prop), SE K env σ G → Same G H → DpAll K G us xs → b env xs = some env' →
    (∀ σ2, SE K env' σ2 G → (∀ ws, (∀ i ∈ vs, i ∈ ws) → L2.wipe σ2 ws = L2.wipe σ ws) → (∀ i, i ∉ vs → σ2[i]? = σ[i]? ∧ env'[i]? = env[i]?) → Q σ2 H) → g us σ H Q
theorem bg_name {K : PySem.W.Frag} (i : Nat) : BG K (gName i) [i] (fun env x => some (env.set i (.sh x))) := fun env env' σ G H v x Q s g h e q => by
  cases e
  refine q _ (s.set i h) (fun ws hw => wipe_set (hw i (by simp))) fun j hj => ?_
  have : i ≠ j := fun z => hj (by simp [z])
  exact ⟨List.getElem?_set_ne this, List.getElem?_set_ne this⟩
def bNil : En → List D → Option En
  | env, [] => some env
  | _, _ => none
def bCons (b : En → D → Option En) (c : En → List D → Option En) : En → List D → Option En
  | env, x :: xs => (b env x).bind fun env' => c env' xs
  | _, [] => none
def bTup (n : Nat) (c : En → List D → Option En) : En → D → Option En
  | env, .tuple xs => if xs.length = n then c env xs else none
  | _, _ => none
theorem bgs_nil {K : PySem.W.Frag} : BGs K gNil [] bNil := fun env env' σ G H us xs Q s g h e q => by
  match xs, h, e with
  | [], h, e =>
    cases e; cases h
    exact ⟨rfl, q σ s (fun _ _ => rfl) fun _ _ => ⟨rfl, rfl⟩⟩
theorem bgs_cons {K : PySem.W.Frag} {t : TG} {u : TGs} {vs ws : List Nat} {b : En → D → Option En} {c : En → List D → Option En} (hb : BG K t vs b) (hc : BGs K u ws c) : BGs K (gCons t u) (vs ++ ws) (bCons b c) := fun env env' σ G H us xs Q s g h e q => by
  match xs, h, e with
  | x :: xs, .cons (v := v) (vs := us) r t', e =>
    obtain ⟨env1, e1, e2⟩ := bind_some e
    refine ⟨v, us, rfl, hb env env1 σ G H v x _ s g r e1 fun σ2 s2 w2 f2 => ?_⟩
    refine hc env1 env' σ2 G H us xs Q s2 g t' e2 fun σ3 s3 w3 f3 => q σ3 s3 (fun zs hz => (w3 zs fun i hi => hz i (List.mem_append_right _ hi)).trans (w2 zs fun i hi => hz i (List.mem_append_left _ hi))) fun i hi => ?_
    rw [List.mem_append, not_or] at hi
    exact ⟨(f3 i hi.2).1.trans (f2 i hi.1).1, (f3 i hi.2).2.trans (f2 i hi.1).2⟩
theorem bg_tup {K : PySem.W.Frag} {n : Nat} {t : TGs} {vs : List Nat} {c : En → List D → Option En} (h : BGs K t vs c) : BG K (gTup K n t) vs (bTup n c) := fun env env' σ G H v x Q s g r e q => by
  match x, r, e with
  | .tuple xs, r, e =>
    unfold bTup at e
    by_cases hl : xs.length = n
    · simp only [hl, if_true] at e
      cases r with
      | tup hs hd => exact ⟨_, _, rfl, sqt_mono g hs, by rw [dpa_len hd]; exact hl, h env env' σ G H _ xs Q s g hd e q⟩
    · simp only [hl, if_false] at e; cases e
/-! ### comprehensions -/
def lcD (c : D → Option Bool) (f : D → Option D) : List D → Option (List D)
  | [] => some []
  | x :: xs => (c x).bind fun b => if b = true then (f x).bind fun y => (lcD c f xs).bind fun ys => some (y :: ys) else lcD c f xs
def lcZ (c : D → Option Bool) (f : D → Option D) (xs : List D) : Option (List D) := if xs.length ≤ sizeLine then lcD c f xs else none
theorem drop_cons {α : Type} {l : List α} {i : Nat} (h : i < l.length) : l.drop i = l[i] :: l.drop (i + 1) := List.drop_eq_getElem_cons h
theorem dl_lc {K : PySem.W.Frag} {env : En} {wi : TI} {g : TG} {tt : TT} {te : TE} {vs ts : List Nat} {rI : Option (List D)} {b : En → D → Option En} {c : D → Option Bool} {f : D → Option D}
    (hi : DI K env wi rI) (hg : BG K g ts b) (hts : ∀ i ∈ ts, i ∈ vs)
    (hc : ∀ x env', b (wipeE env vs) x = some env' → DT K env' tt (c x)) (hf : ∀ x env', b (wipeE env vs) x = some env' → DV K env' te (f x)) (hb : ∀ x y, c x = some y → ∃ env', b (wipeE env vs) x = some env') :
    DL K env (tLc wi g tt te vs) (rI.bind (lcZ c f)) := fun σ G H Q out s gh e q => by
  obtain ⟨ds, e1, e2⟩ := bind_some e
  unfold lcZ at e2
  by_cases hz : ds.length ≤ sizeLine
  · rw [if_pos hz] at e2
    refine hi σ G H _ ds s gh e1 fun J G1 H1 E1 ok => ?_
    intro Dd hD
    have gD : G1 Dd = none := E1.gh.free hD
    refine ⟨fun i m H2 => i ≤ ds.length ∧ m = ds.length - i ∧ ∃ (G2 : Hp) (acc : List V) (as rest : List D), Ext G1 H1 G2 H2 ∧ H2 Dd = some (.lst acc) ∧ G2 Dd = none ∧ DpAll K G2 acc as ∧ as.length ≤ i ∧ lcD c f (ds.drop i) = some rest ∧ as ++ rest = out,
      ⟨ds.length, Nat.zero_le _, by omega, G1, [], [], out, Ext.own E1.gh hD, upd_same, gD, .nil, Nat.le_refl _, by simpa using e2, rfl⟩, ?_⟩
    rintro i m H2 ⟨hi2, rfl, G2, acc, as, rest, E2, hacc, gD2, hd, hl, hr, ho⟩
    by_cases hlt : i < ds.length
    · right
      refine ⟨ok.go G2 H2 i E2.gg E2.gh hlt, fun H3 => ∃ m', m' < ds.length - i ∧ (i + 1 ≤ ds.length ∧ m' = ds.length - (i + 1) ∧ ∃ (G2 : Hp) (acc : List V) (as rest : List D), Ext G1 H1 G2 H3 ∧ H3 Dd = some (.lst acc) ∧ G2 Dd = none ∧ DpAll K G2 acc as ∧ as.length ≤ i + 1 ∧ lcD c f (ds.drop (i + 1)) = some rest ∧ as ++ rest = out), fun H3 h => h, fun x H3 hy => ?_⟩
      have hget : ds[i]? = some ds[i] := List.getElem?_eq_getElem hlt
      obtain ⟨G3, E3, hx⟩ := ok.yl G2 H2 i x H3 ds[i] E2.gg E2.gh hget hy
      rw [drop_cons hlt] at hr
      unfold lcD at hr
      obtain ⟨bb, ec, hr⟩ := bind_some hr
      obtain ⟨env', eb⟩ := hb ds[i] bb ec
      have hH3 : H3 Dd = some (.lst acc) := E3.hh _ _ hacc
      have gD3 : G3 Dd = none := E3.nwL hacc gD2
      refine hg (wipeE env vs) env' (L2.wipe σ vs) G3 H3 x ds[i] _ ((s.wipe vs).mono ((E1.gg.trans E2.gg).trans E3.gg)) E3.gh hx eb fun σ2 s2 w2 _ => ?_
      refine ⟨(w2 vs hts).trans wipe_idem, ?_⟩
      refine hc ds[i] env' eb σ2 G3 H3 _ bb s2 E3.gh ec fun G4 H4 E4 => ?_
      have hH4 : H4 Dd = some (.lst acc) := E4.hh _ _ hH3
      have gD4 : G4 Dd = none := E4.nwL hH3 gD3
      have E14 := (E2.trans E3).trans E4
      cases bb with
      | true =>
        rw [if_pos rfl] at hr ⊢
        obtain ⟨y, ey, hr⟩ := bind_some hr
        obtain ⟨ys, eys, hr⟩ := bind_some hr
        cases hr
        refine hf ds[i] env' eb σ2 G4 H4 _ y (s2.mono E4.gg) E4.gh ey fun v G5 H5 E5 h5 => ?_
        have hH5 : H5 Dd = some (.lst acc) := E5.hh _ _ hH4
        have gD5 : G5 Dd = none := E5.nwL hH4 gD4
        have E15 := E14.trans E5
        have hlen := dpa_len hd
        refine ⟨acc, hH5, by omega, ds.length - (i + 1), by omega, by omega, rfl, G5, acc ++ [v], as ++ [y], ys, ?_, upd_same, gD5, dpa_app (dpa_mono ((E3.gg.trans E4.gg).trans E5.gg) _ _ hd) (dpa_one h5), ?_, eys, by rw [← ho, List.append_assoc]; rfl⟩
        · refine ⟨E15.gg, fun bq o eq => ?_, fun bq o eq => ?_, E15.nw⟩
          · have : bq ≠ Dd := ne_of_none eq hD
            rw [upd_ne this]; exact E15.hh bq o eq
          · have : bq ≠ Dd := ne_of_none eq gD5
            rw [upd_ne this]; exact E15.gh bq o eq
        · rw [List.length_append]; simp; omega
      | false =>
        rw [if_neg Bool.false_ne_true] at hr ⊢
        exact ⟨ds.length - (i + 1), by omega, by omega, rfl, G4, acc, as, rest, E14, hH4, gD4, dpa_mono (E3.gg.trans E4.gg) _ _ hd, by omega, hr, ho⟩
    · left
      have ei : i = ds.length := by omega
      subst ei
      rw [List.drop_length] at hr
      cases hr
      rw [List.append_nil] at ho
      subst ho
      exact ⟨ok.stop G2 H2 _ E2.gg E2.gh (Nat.le_refl _), q Dd acc G2 H2 (E1.trans E2) (E1.hh.free hD) gD2 hacc hd⟩
  · rw [if_neg hz] at e2; cases e2
/-- the target a name -/
theorem dl_lcN {K : PySem.W.Frag} {env : En} {wi : TI} {tt : TT} {te : TE} {vs : List Nat} {j : Nat} {rI : Option (List D)} {c : D → Option Bool} {f : D → Option D}
    (hi : DI K env wi rI) (hc : ∀ x, DT K ((wipeE env vs).set j (.sh x)) tt (c x)) (hf : ∀ x, DV K ((wipeE env vs).set j (.sh x)) te (f x)) (hts : j ∈ vs := by decide) :
    DL K env (tLc wi (gName j) tt te vs) (rI.bind (lcZ c f)) :=
  dl_lc hi (bg_name j) (by intro i hi; simp at hi; subst hi; exact hts) (fun x env' e => by cases e; exact hc x) (fun x env' e => by cases e; exact hf x) fun x y _ => ⟨_, rfl⟩
theorem dt_yes {K : PySem.W.Frag} {env : En} : DT K env tYes (some true) := fun σ G H Q b s g e q => by
  cases e; exact q G H (Ext.refl g)
end Dl

set_option Elab.async false
set_option linter.all false
set_option maxRecDepth 100000
set_option maxHeartbeats 2000000
namespace Dl
open PySem PySem.Spec PyProof.Rows L2
/-! ### statements -/
/-- the state: shared data on G (base G0, at least B); what a slot owns stands in H alone, each slot's apart -/
structure SS (K : PySem.W.Frag) (env : En) (σ : L2.St) (G0 H0 B : Hp) (G H : Hp) : Prop where
  ext : Ext G0 H0 G H
  bg : Same B G
  len : σ.length = env.length
  fp : ∃ F : Nat → List Addr, (∀ (i : Nat) (s : Sl), env[i]? = some s → ∃ o, σ[i]? = some o ∧ s.p K H0 G H o (F i)) ∧ (∀ i a, a ∈ F i → G a = none ∧ H0 a = none ∧ Ow (H a)) ∧ ∀ i j a, i ≠ j → a ∈ F i → a ∉ F j
inductive Out (α β : Type) where
  | nx (a : α)
  | rt (d : D)
  | bk (b : β)
  | ct (b : β)
  | no
  /-- raised: the class's name, the fields -/
  | xc (x : Str × List D)
/-- what a return hands on: from the base and the heap at the beginning -/
abbrev RR := Hp → Hp → Hp → Hp → V → D → Prop
/-- shared data -/
def RtS (K : PySem.W.Frag) : RR := fun G0 H0 G H v d => Ext G0 H0 G H ∧ Dp K G v d
/-- a list that is nobody's yet -/
def RtL (K : PySem.W.Frag) : RR := fun G0 H0 G H v d => Ext G0 H0 G H ∧ ∃ p xs ds, v = .ref p ∧ d = .list ds ∧ H0 p = none ∧ G p = none ∧ H p = some (.lst xs) ∧ DpAll K G xs ds
/-- how a block is left: what a return hands on; what a raise hands on (an exception's class and dict tell x), with the slots xe -/
structure Md where
  R : RR
  xr : Hp → Hp → Value → Option Addr → Str × List D → Prop
  W : Value → Option Addr → L2.St → Hp → Prop
  xe : En
/-- nothing is raised -/
def Md.no (R : RR) : Md := ⟨R, fun _ _ _ _ _ => True, fun _ _ _ _ => False, []⟩
def Post (K : PySem.W.Frag) (M : Md) {α β : Type} (en : α → En) (eb : β → En) (T : Ends) (G0 H0 B : Hp) : Out α β → Prop
  | .nx a => ∀ σ G H, SS K (en a) σ G0 H0 B G H → T.nx σ H
  | .rt d => ∀ v G H, M.R G0 H0 G H v d → T.rt v H
  | .bk b => ∀ σ G H, SS K (eb b) σ G0 H0 B G H → T.bk σ H
  | .ct b => ∀ σ G H, SS K (eb b) σ G0 H0 B G H → T.ct σ H
  | .no => False
  | .xc x => ∀ σ G H cls d, SS K M.xe σ G0 H0 B G H → M.xr G H cls d x → M.W cls d σ H
/-- the block t, begun with env, comes to o -/
def DS (K : PySem.W.Frag) (M : Md) (env : En) (t : TS) {α β : Type} (en : α → En) (eb : β → En) (o : Out α β) : Prop :=
  ∀ σ (G0 H0 B G H : Hp) (T : Ends), SS K env σ G0 H0 B G H → Post K M en eb T G0 H0 B o → t T σ H
def Out.bind {α β γ : Type} (o : Out α β) (k : α → Out γ β) : Out γ β := match o with
  | .nx a => k a
  | .rt d => .rt d
  | .bk b => .bk b
  | .ct b => .ct b
  | .no => .no
  | .xc x => .xc x
def toO {α β : Type} (r : Option α) : Out α β := match r with
  | some a => .nx a
  | none => .no
def toR {α β : Type} (r : Option D) : Out α β := match r with
  | some a => .rt a
  | none => .no
def ifO {α β : Type} (c : Option Bool) (o u : Out α β) : Out α β := match c with
  | some true => o
  | some false => u
  | none => .no
def Out.run {α β : Type} (o : Out α β) : Option D := match o with
  | .nx _ => some .none
  | .rt d => some d
  | _ => none
/-- a run that returns -/
def Out.runL {α β : Type} (o : Out α β) : Option D := match o with
  | .rt d => some d
  | _ => none
/-! #### weaker states -/
inductive LeS : Sl → Sl → Prop
  | refl (s : Sl) : LeS s s
  | un (s : Sl) : LeS .un s
  | frz (ds : List D) : LeS (.sh (.list ds)) (.ow ds)
inductive Le : En → En → Prop
  | nil : Le [] []
  | cons {a b : Sl} {r s : En} : LeS a b → Le r s → Le (a :: r) (b :: s)
theorem Le.refl : ∀ e : En, Le e e
  | [] => .nil
  | a :: r => .cons (.refl a) (Le.refl r)
theorem Le.get : ∀ {r s : En} {i : Nat} {a : Sl}, Le r s → r[i]? = some a → ∃ b, s[i]? = some b ∧ LeS a b
  | _, _, _, _, .nil, h => by simp at h
  | _, _, 0, _, .cons q _, h => by simp at h; subst h; exact ⟨_, rfl, q⟩
  | _, _, i + 1, a, .cons _ t, h => by
    obtain ⟨b, h1, h2⟩ := Le.get (i := i) (a := a) t (by simpa using h)
    exact ⟨b, by simpa using h1, h2⟩
theorem Le.len : ∀ {r s : En}, Le r s → r.length = s.length
  | _, _, .nil => rfl
  | _, _, .cons _ t => congrArg (· + 1) (Le.len t)
section
variable {K : PySem.W.Frag} {env env' : En} {σ : L2.St} {G0 H0 B G H G' H' : Hp}
/-- the heap grows: what is shared and what is own stay -/
theorem SS.ext' (s : SS K env σ G0 H0 B G H) (E : Ext G H G' H') : SS K env σ G0 H0 B G' H' := by
  obtain ⟨F, f1, f2, f3⟩ := s.fp
  refine ⟨s.ext.trans E, s.bg.trans E.gg, s.len, F, fun i sl h => ?_, fun i a h => ?_, f3⟩
  · obtain ⟨o, h1, h2⟩ := f1 i sl h
    refine ⟨o, h1, sl.pm E.gg (fun a ha => ?_) (TpS.of E.hh) h2⟩
    obtain ⟨_, _, h3⟩ := f2 i a ha
    cases e : H a with
    | none => exact absurd e h3.1
    | some u => exact E.hh a u e
  · obtain ⟨h1, h2, h3⟩ := f2 i a h
    exact ⟨E.nwO h3 h1, h2, ow_same E.hh h3⟩
/-- H alone grows -/
theorem SS.grow (s : SS K env σ G0 H0 B G H) (E : Same H H') : SS K env σ G0 H0 B G H' := s.ext' ⟨Same.refl G, E, s.ext.gh.trans E, fun _ _ z => .inl z⟩
theorem SS.sh (s : SS K env σ G0 H0 B G H) (i : Nat) (d : D) (h : env[i]? = some (Sl.sh d)) : ∃ v, σ[i]? = some (some v) ∧ Dp K G v d := by
  obtain ⟨F, f1, _, _⟩ := s.fp
  obtain ⟨o, h1, _, v, rfl, h2⟩ := f1 i _ h
  exact ⟨v, h1, h2⟩
theorem SS.sq (s : SS K env σ G0 H0 B G H) (i : Nat) (ns : List Int) (h : env[i]? = some (Sl.sq ns)) : ∃ a, σ[i]? = some (some (.ref a)) ∧ SqL K G a (ns.map V.int) := by
  obtain ⟨F, f1, _, _⟩ := s.fp
  obtain ⟨o, h1, _, a, rfl, h2⟩ := f1 i _ h
  exact ⟨a, h1, h2⟩
theorem SS.ow (s : SS K env σ G0 H0 B G H) (i : Nat) (ds : List D) (h : env[i]? = some (Sl.ow ds)) : ∃ l xs, σ[i]? = some (some (.ref l)) ∧ H l = some (.lst xs) ∧ G l = none ∧ H0 l = none ∧ DpAll K G xs ds := by
  obtain ⟨F, f1, f2, _⟩ := s.fp
  obtain ⟨o, h1, l, xs, rfl, hS, h2, h3⟩ := f1 i _ h
  obtain ⟨a, b, _⟩ := f2 i l (by rw [hS]; simp)
  exact ⟨l, xs, h1, h2, a, b, h3⟩
/-- for an expression that looks at all -/
theorem SS.all (s : SS K env σ G0 H0 B G H) : SE K env σ H := ⟨s.len, fun i sl h => by
  obtain ⟨F, f1, _, _⟩ := s.fp
  obtain ⟨o, h1, h2⟩ := f1 i sl h
  exact ⟨o, h1, sl.pv s.ext.hh s.ext.gh h2⟩⟩
/-- what is own, hidden -/
def hid (s : Sl) : Sl := match s.sm with
  | true => s
  | false => .un
def noOw (env : En) : En := env.map hid
theorem SS.shd (s : SS K env σ G0 H0 B G H) : SE K (noOw env) σ G := by
  obtain ⟨F, f1, _, _⟩ := s.fp
  unfold noOw
  refine ⟨by rw [List.length_map]; exact s.len, fun i sl h => ?_⟩
  rw [List.getElem?_map] at h
  cases e : env[i]? with
  | none => rw [e] at h; cases h
  | some a =>
    rw [e] at h
    obtain ⟨o, h1, h2⟩ := f1 i a e
    refine ⟨o, h1, ?_⟩
    have h' : hid a = sl := Option.some.inj h
    subst h'
    unfold hid
    cases hs : a.sm with
    | true => exact ((a.pe hs).mp h2).2
    | false => exact trivial
def fpSet (F : Nat → List Addr) (i : Nat) (S : List Addr) (j : Nat) : List Addr := if j = i then S else F j
theorem fpSet_pos {F : Nat → List Addr} {i j : Nat} {S : List Addr} (h : j = i) : fpSet F i S j = S := if_pos h
theorem fpSet_neg {F : Nat → List Addr} {i j : Nat} {S : List Addr} (h : j ≠ i) : fpSet F i S j = F j := if_neg h
/-- a slot stored: it owns S, new or its own before -/
theorem SS.put (s : SS K env σ G0 H0 B G H) (E : Ext G H G' H') {sl : Sl} {o : Option V} {S : List Addr} (i : Nat) (h : sl.p K H0 G' H' o S) (hn : ∀ a ∈ S, H a = none ∧ G' a = none ∧ Ow (H' a)) : SS K (env.set i sl) (σ.set i o) G0 H0 B G' H' := by
  have s' := s.ext' E
  obtain ⟨F0, g1, g2, g3⟩ := s.fp
  refine ⟨s'.ext, s'.bg, by rw [List.length_set, List.length_set, s.len], fpSet F0 i S, fun j e hj => ?_, fun j a hj => ?_, fun j k a hjk hj => ?_⟩
  · rcases set_some hj with ⟨rfl, rfl, hl⟩ | ⟨ne, hj⟩
    · rw [fpSet_pos rfl]; exact ⟨o, List.getElem?_set_self (by rw [s.len]; exact hl), h⟩
    · rw [fpSet_neg (Ne.symm ne), List.getElem?_set_ne ne]
      obtain ⟨o, h1, h2⟩ := g1 j e hj
      refine ⟨o, h1, e.pm E.gg (fun a ha => ?_) (TpS.of E.hh) h2⟩
      obtain ⟨_, _, h3⟩ := g2 j a ha
      cases ea : H a with
      | none => exact absurd ea h3.1
      | some u => exact E.hh a u ea
  · by_cases c : j = i
    · rw [fpSet_pos c] at hj
      obtain ⟨a1, a2, a3⟩ := hn a hj
      exact ⟨a2, s.ext.hh.free a1, a3⟩
    · rw [fpSet_neg c] at hj
      obtain ⟨h1, h2, h3⟩ := g2 j a hj
      exact ⟨E.nwO h3 h1, h2, ow_same E.hh h3⟩
  · by_cases c : j = i
    · rw [fpSet_pos c] at hj
      rw [fpSet_neg (fun z => hjk (c.trans z.symm))]
      intro hk
      exact (g2 k a hk).2.2.1 (hn a hj).1
    · rw [fpSet_neg c] at hj
      by_cases c2 : k = i
      · rw [fpSet_pos c2]
        intro hk
        exact (g2 j a hj).2.2.1 (hn a hk).1
      · rw [fpSet_neg c2]
        exact g3 j k a hjk hj
theorem SS.set (s : SS K env σ G0 H0 B G H) {v : V} {d : D} (i : Nat) (h : Dp K G v d) : SS K (env.set i (.sh d)) (σ.set i (some v)) G0 H0 B G H :=
  s.put (Ext.refl s.ext.gh) (sl := .sh d) (S := []) i ⟨rfl, v, rfl, h⟩ fun a ha => by cases ha
/-- a new own list into a slot -/
theorem SS.newO (s : SS K env σ G0 H0 B G H) (E : Ext G H G' H') {p : Addr} {xs : List V} {ds : List D} (i : Nat) (hp : H p = none) (gp : G' p = none) (hl : H' p = some (.lst xs)) (h : DpAll K G' xs ds) :
    SS K (env.set i (.ow ds)) (σ.set i (some (.ref p))) G0 H0 B G' H' :=
  s.put E (sl := .ow ds) (S := [p]) i ⟨p, xs, rfl, rfl, hl, h⟩ fun a ha => by
    simp at ha; subst ha; exact ⟨hp, gp, ow_lst hl⟩
/-- the own things of a slot change: its heap's objects at S alone -/
theorem SS.chgS (s : SS K env σ G0 H0 B G H) {i : Nat} {sl sl' : Sl} (hi : env[i]? = some sl) (hc : ∀ o S, σ[i]? = some o → (∀ b ∈ S, Ow (H b)) → sl.p K H0 G H o S → sl'.p K H0 G H' o S ∧ (∀ b, b ∉ S → H' b = H b) ∧ ∀ b ∈ S, Ow (H' b)) :
    SS K (env.set i sl') σ G0 H0 B G H' := by
  obtain ⟨F, f1, f2, f3⟩ := s.fp
  obtain ⟨o, h1, h2⟩ := f1 i sl hi
  obtain ⟨c1, c2, c3⟩ := hc o (F i) h1 (fun b hb => (f2 i b hb).2.2) h2
  have keep : ∀ b u, H b = some u → b ∉ F i → H' b = some u := fun b u e n => (c2 b n).trans e
  have tps : TpS H H' := fun b hb => c2 b fun z => (f2 i b z).2.2.2 hb
  have ilt : i < env.length := by
    rcases Nat.lt_or_ge i env.length with z | z
    · exact z
    · rw [List.getElem?_eq_none z] at hi; cases hi
  refine ⟨⟨s.ext.gg, fun b u e => keep b u (s.ext.hh b u e) fun hb => ?_, fun b u e => keep b u (s.ext.gh b u e) fun hb => ?_, s.ext.nw⟩, s.bg, by rw [List.length_set]; exact s.len, F, fun j e hj => ?_, fun j a hj => ?_, f3⟩
  · have := (f2 i b hb).2.1; rw [this] at e; cases e
  · have := (f2 i b hb).1; rw [this] at e; cases e
  · rcases set_some hj with ⟨rfl, rfl, hl⟩ | ⟨ne, hj⟩
    · exact ⟨o, h1, c1⟩
    · obtain ⟨o', k1, k2⟩ := f1 j e hj
      exact ⟨o', k1, e.pm (Same.refl G) (fun a ha => c2 a fun z => f3 j i a (Ne.symm ne) ha z) tps k2⟩
  · obtain ⟨h3, h4, h5⟩ := f2 j a hj
    refine ⟨h3, h4, ?_⟩
    by_cases z : a ∈ F i
    · exact c3 a z
    · rw [c2 a z]; exact h5
/-- the own list of a slot changes -/
theorem SS.chg (s : SS K env σ G0 H0 B G H) {p : Addr} {xs ys : List V} {ds es : List D} {i : Nat} (hi : env[i]? = some (.ow ds)) (hv : σ[i]? = some (some (.ref p))) (hp : H p = some (.lst xs)) (h : DpAll K G ys es) :
    SS K (env.set i (.ow es)) σ G0 H0 B G (upd H p (.lst ys)) :=
  s.chgS hi fun o S ho _ ⟨l, zs, e, hS, hl, hd⟩ => by
    subst e
    rw [hv] at ho; cases ho
    subst hS
    refine ⟨⟨p, ys, rfl, rfl, upd_same, h⟩, fun b hb => upd_ne (by simpa using hb), fun b hb => ?_⟩
    simp at hb; subst hb; exact ow_lst upd_same
/-- one slot frozen -/
theorem SS.frz1 (s : SS K env σ G0 H0 B G H) {i : Nat} {ds : List D} (hi : env[i]? = some (.ow ds)) : ∃ G', SS K (env.set i (.sh (.list ds))) σ G0 H0 B G' H ∧ Same G G' := by
  obtain ⟨F, f1, f2, f3⟩ := s.fp
  obtain ⟨o, h1, l, xs, rfl, hS, h2, h5⟩ := f1 i _ hi
  obtain ⟨h3, h4, _⟩ := f2 i l (by rw [hS]; simp)
  have gg : Same G (upd G l (.lst xs)) := same_upd h3
  refine ⟨upd G l (.lst xs), ⟨⟨s.ext.gg.trans gg, s.ext.hh, fun b o e => ?_, fun q hq gq => ?_⟩, s.bg.trans gg, by rw [List.length_set]; exact s.len, fpSet F i [], fun j e hj => ?_, fun j a hj => ?_, fun j k a hjk hj => ?_⟩, gg⟩
  · by_cases z : b = l
    · subst z; rw [upd_same] at e; rw [h2]; exact e
    · rw [upd_ne z] at e; exact s.ext.gh b o e
  · have z : q ≠ l := fun z => hq (by rw [z]; exact h4)
    rw [upd_ne z]; exact s.ext.nw q hq gq
  · rcases set_some hj with ⟨rfl, rfl, hl⟩ | ⟨ne, hj⟩
    · rw [fpSet_pos rfl]
      exact ⟨_, h1, rfl, .ref l, rfl, .lst upd_same (dpa_mono gg _ _ h5)⟩
    · rw [fpSet_neg (Ne.symm ne)]
      obtain ⟨o, a1, a2⟩ := f1 j e hj
      exact ⟨o, a1, e.pm gg (fun _ _ => rfl) (TpS.of (Same.refl H)) a2⟩
  · by_cases c : j = i
    · rw [fpSet_pos c] at hj; cases hj
    · rw [fpSet_neg c] at hj
      obtain ⟨a1, a2, a3⟩ := f2 j a hj
      have : a ≠ l := fun z => f3 j i a c hj (by rw [hS, z]; simp)
      exact ⟨by rw [upd_ne this]; exact a1, a2, a3⟩
  · by_cases c : j = i
    · rw [fpSet_pos c] at hj; cases hj
    · rw [fpSet_neg c] at hj
      by_cases c2 : k = i
      · rw [fpSet_pos c2]; simp
      · rw [fpSet_neg c2]; exact f3 j k a hjk hj
/-- a slot forgotten -/
theorem SS.un1 (s : SS K env σ G0 H0 B G H) (i : Nat) : SS K (env.set i .un) σ G0 H0 B G H := by
  obtain ⟨F, f1, f2, f3⟩ := s.fp
  refine ⟨s.ext, s.bg, by rw [List.length_set]; exact s.len, fpSet F i [], fun j e hj => ?_, fun j a hj => ?_, fun j k a hjk hj => ?_⟩
  · rcases set_some hj with ⟨rfl, rfl, hl⟩ | ⟨ne, hj⟩
    · rw [fpSet_pos rfl]
      have : i < σ.length := by rw [s.len]; exact hl
      exact ⟨σ[i], List.getElem?_eq_getElem this, rfl, trivial⟩
    · rw [fpSet_neg (Ne.symm ne)]; exact f1 j e hj
  · by_cases c : j = i
    · rw [fpSet_pos c] at hj; cases hj
    · rw [fpSet_neg c] at hj; exact f2 j a hj
  · by_cases c : j = i
    · rw [fpSet_pos c] at hj; cases hj
    · rw [fpSet_neg c] at hj
      by_cases c2 : k = i
      · rw [fpSet_pos c2]; simp
      · rw [fpSet_neg c2]; exact f3 j k a hjk hj
/-- the first n slots as in the weaker one -/
theorem SS.weakN (h : Le env' env) (s : SS K env σ G0 H0 B G H) : ∀ n, n ≤ env.length → ∃ G', SS K (env'.take n ++ env.drop n) σ G0 H0 B G' H ∧ Same G G'
  | 0, _ => ⟨G, by simpa using s, Same.refl G⟩
  | n + 1, hn => by
    obtain ⟨G1, s1, g1⟩ := SS.weakN h s n (by omega)
    have hl := h.len
    have hn' : n < env.length := hn
    have hn2 : n < env'.length := by omega
    obtain ⟨b, eb, lb⟩ := h.get (List.getElem?_eq_getElem hn2)
    have hb : env[n] = b := by rw [List.getElem?_eq_getElem hn'] at eb; exact Option.some.inj eb
    have ge : (env'.take n ++ env.drop n)[n]? = some b := by
      rw [List.getElem?_append_right (by simp; omega)]
      simp [Nat.min_eq_left (Nat.le_of_lt hn2), List.getElem?_drop, eb]
    have st : ∀ x, (env'.take n ++ env.drop n).set n x = env'.take n ++ x :: env.drop (n + 1) := fun x => by
      rw [List.set_append_right _ _ (by simp; omega)]
      have : n - (env'.take n).length = 0 := by simp; omega
      rw [this, drop_cons hn']; rfl
    have tk : env'.take (n + 1) ++ env.drop (n + 1) = env'.take n ++ env'[n] :: env.drop (n + 1) := by
      rw [List.take_succ_eq_append_getElem hn2, List.append_assoc]; rfl
    rw [tk]
    generalize env'[n] = a at lb
    cases lb with
    | refl =>
      have : env'.take n ++ b :: env.drop (n + 1) = env'.take n ++ env.drop n := by rw [drop_cons hn', hb]
      rw [this]; exact ⟨G1, s1, g1⟩
    | un =>
      have := s1.un1 n
      rw [st] at this
      exact ⟨G1, this, g1⟩
    | frz ds =>
      obtain ⟨G2, s2, g2⟩ := s1.frz1 ge
      rw [st] at s2
      exact ⟨G2, s2, g1.trans g2⟩
theorem SS.weak (h : Le env' env) (s : SS K env σ G0 H0 B G H) : ∃ G', SS K env' σ G0 H0 B G' H ∧ Same G G' := by
  obtain ⟨G1, s1, g1⟩ := s.weakN h env.length (Nat.le_refl _)
  rw [List.drop_length, List.append_nil, ← h.len, List.take_length] at s1
  exact ⟨G1, s1, g1⟩
end
section
variable {K : PySem.W.Frag} {M : Md} {env env' : En} {te : TE} {tt : TT} {t u : TS} {ra : Option D} {rt : Option Bool} {rA : Option (List D)} {α β γ : Type} {en : α → En} {eb : β → En} {ec : γ → En} {o p : Out α β}
/-- the start weakened -/
theorem ds_weak (h : Le env' env) (d : DS K M env' t en eb o) : DS K M env t en eb o := fun σ G0 H0 B G H T s q => by
  obtain ⟨G', s', g⟩ := s.weak h
  exact d σ G0 H0 B G' H T s' q
/-- the end weakened -/
theorem ds_end {g : α → γ} (h : ∀ a, Le (ec (g a)) (en a)) (d : DS K M env t en eb o) : DS K M env t ec eb (o.bind fun a => .nx (g a)) := fun σ G0 H0 B G H T s q => by
  refine d σ G0 H0 B G H T s ?_
  cases o with
  | nx a => intro σ' G' H' s'; obtain ⟨G2, s2, _⟩ := s'.weak (h a); exact q σ' G2 H' s2
  | rt d => exact q
  | bk b => exact q
  | ct b => exact q
  | no => exact q
  | xc x => exact q
theorem ds_nil {a : α} (h : Le (en a) env) : DS K M env tNext en eb (.nx a : Out α β) := fun σ G0 H0 B G H T s q => by
  obtain ⟨G', s', _⟩ := s.weak h
  exact q σ G' H s'
theorem ds_seq {o : Out γ β} {k : γ → Out α β} (h : DS K M env t ec eb o) (hk : ∀ a, DS K M (ec a) u en eb (k a)) : DS K M env (tSeq t u) en eb (o.bind k) := fun σ G0 H0 B G H T s q => by
  refine h σ G0 H0 B G H _ s ?_
  cases o with
  | nx a => exact fun σ' G' H' s' => hk a σ' G0 H0 B G' H' T s' q
  | rt d => exact q
  | bk b => exact q
  | ct b => exact q
  | no => exact q
  | xc x => exact q
/-- x = e, the data shared -/
theorem ds_set {i : Nat} (h : DV K (noOw env) te ra) : DS K M env (tAsg te (gName i)) (fun d => env.set i (.sh d)) eb (toO ra) := fun σ G0 H0 B G H T s q => by
  cases ra with
  | none => exact q.elim
  | some d => exact h σ G H _ d s.shd s.ext.gh rfl fun v G' H' E hd => q _ G' H' ((s.ext' E).set i hd)
/-- x = e, e a thing without parts; own lists may be looked at -/
def atomO (r : Option D) : Option D := r.bind fun d => if atom d = true then some d else none
theorem atomO_some {r : Option D} {d : D} (h : atomO r = some d) : r = some d ∧ atom d = true := by
  obtain ⟨x, e1, e2⟩ := bind_some h
  by_cases z : atom x = true
  · rw [if_pos z] at e2; cases e2; exact ⟨e1, z⟩
  · rw [if_neg z] at e2; cases e2
theorem ds_setA {i : Nat} (h : DV K env te ra) : DS K M env (tAsg te (gName i)) (fun d => env.set i (.sh d)) eb (toO (atomO ra)) := fun σ G0 H0 B G H T s q => by
  cases e : atomO ra with
  | none => rw [e] at q; exact q.elim
  | some d =>
    rw [e] at q
    obtain ⟨e1, e2⟩ := atomO_some e
    exact h σ H H _ d s.all (Same.refl H) e1 fun v G' H' E hd => q _ G H' ((s.grow E.hh).set i (dp_atom e2 hd))
/-- x = e, e a new list -/
theorem ds_setL {i : Nat} (h : DL K (noOw env) te rA) : DS K M env (tAsg te (gName i)) (fun ds => env.set i (.ow ds)) eb (toO rA) := fun σ G0 H0 B G H T s q => by
  cases rA with
  | none => exact q.elim
  | some ds => exact h σ G H _ ds s.shd s.ext.gh rfl fun p xs G' H' E hp gp hl hd => q _ G' H' (s.newO E i hp gp hl hd)
/-- the same of things without parts, own lists looked at -/
def atomsO (r : Option (List D)) : Option (List D) := r.bind fun ds => if ds.all atom = true then some ds else none
theorem ds_setLA {i : Nat} (h : DL K env te rA) : DS K M env (tAsg te (gName i)) (fun ds => env.set i (.ow ds)) eb (toO (atomsO rA)) := fun σ G0 H0 B G H T s q => by
  cases e : atomsO rA with
  | none => rw [e] at q; exact q.elim
  | some ds =>
    rw [e] at q
    obtain ⟨es, e1, e2⟩ := bind_some e
    by_cases z : es.all atom = true
    · rw [if_pos z] at e2; cases e2
      exact h σ H H _ ds s.all (Same.refl H) e1 fun p xs G' H' E hp gp hl hd => q _ G H' (s.newO ⟨Same.refl G, E.hh, s.ext.gh.trans E.hh, fun _ _ z => .inl z⟩ i hp (s.ext.gh.free hp) hl (dpa_atom z hd))
    · rw [if_neg z] at e2; cases e2
theorem ds_ret (h : DV K (noOw env) te ra) (hM : M.R = RtS K := by rfl) : DS K M env (tRet te) en eb (toR ra : Out α β) := fun σ G0 H0 B G H T s q => by
  cases ra with
  | none => exact q.elim
  | some d => exact h σ G H _ d s.shd s.ext.gh rfl fun v G' H' E hd => q v G' H' (by rw [hM]; exact ⟨s.ext.trans E, hd⟩)
theorem ds_retA (h : DV K env te ra) (hM : M.R = RtS K := by rfl) : DS K M env (tRet te) en eb (toR (atomO ra) : Out α β) := fun σ G0 H0 B G H T s q => by
  cases e : atomO ra with
  | none => rw [e] at q; exact q.elim
  | some d =>
    rw [e] at q
    obtain ⟨e1, e2⟩ := atomO_some e
    exact h σ H H _ d s.all (Same.refl H) e1 fun v G' H' E hd => q v G H' (by rw [hM]; exact ⟨(s.grow E.hh).ext, dp_atom e2 hd⟩)
theorem ds_retN (hM : M.R = RtS K := by rfl) : DS K M env tRetN en eb (.rt .none : Out α β) := fun σ G0 H0 B G H T s q => q .non G H (by rw [hM]; exact ⟨s.ext, .non⟩)
/-- a new list is returned, nobody's yet -/
theorem ds_retL (h : DL K (noOw env) te rA) (hM : M.R = RtL K := by rfl) : DS K M env (tRet te) en eb (toR (newO rA) : Out α β) := fun σ G0 H0 B G H T s q => by
  cases rA with
  | none => exact q.elim
  | some ds => exact h σ G H _ ds s.shd s.ext.gh rfl fun p xs G' H' E hp gp hl hd => q (.ref p) G' H' (by rw [hM]; exact ⟨s.ext.trans E, p, xs, ds, rfl, rfl, s.ext.hh.free hp, gp, hl, hd⟩)
/-- an own list is returned -/
theorem ds_retO {i : Nat} {ds : List D} (hi : env[i]? = some (Sl.ow ds)) (hM : M.R = RtL K := by rfl) : DS K M env (tRet (tVar i)) en eb (toR (some (.list ds)) : Out α β) := fun σ G0 H0 B G H T s q => by
  obtain ⟨l, xs, h1, h2, h3, h4, h5⟩ := s.ow i ds hi
  exact ⟨.ref l, h1, q (.ref l) G H (by rw [hM]; exact ⟨s.ext, l, xs, ds, rfl, rfl, h4, h3, h2, h5⟩)⟩
theorem ds_if (c : DT K env tt rt) (h : DS K M env t en eb o) (k : DS K M env u en eb p) : DS K M env (tIfS tt t u) en eb (ifO rt o p) := fun σ G0 H0 B G H T s q => by
  cases rt with
  | none => exact q.elim
  | some b =>
    refine c σ H H _ b s.all (Same.refl H) rfl fun G' H' E => ?_
    cases b with
    | true => rw [if_pos rfl]; exact h σ G0 H0 B G H' T (s.grow E.hh) q
    | false => rw [if_neg Bool.false_ne_true]; exact k σ G0 H0 B G H' T (s.grow E.hh) q
theorem ds_brk {b : β} (h : Le (eb b) env) : DS K M env tBreak en eb (.bk b : Out α β) := fun σ G0 H0 B G H T s q => by
  obtain ⟨G', s', _⟩ := s.weak h
  exact q σ G' H s'
theorem ds_cont {b : β} (h : Le (eb b) env) : DS K M env tCont en eb (.ct b : Out α β) := fun σ G0 H0 B G H T s q => by
  obtain ⟨G', s', _⟩ := s.weak h
  exact q σ G' H s'
/-- an expression as a statement -/
theorem ds_drop (h : DV K env te ra) : DS K M env (tDrop te) (fun _ : Unit => env) eb (toO (ra.bind fun _ => some ())) := fun σ G0 H0 B G H T s q => by
  cases ra with
  | none => exact q.elim
  | some d => exact h σ H H _ d s.all (Same.refl H) rfl fun v G' H' E hd => q σ G H' (s.grow E.hh)
def addL (ds : List D) (d : D) : Option (List D) := if ds.length < sizeLine then some (ds ++ [d]) else none
/-- xs.append(e), xs an own list -/
theorem ds_app {i : Nat} {ds : List D} (hi : env[i]? = some (Sl.ow ds)) (h : DV K (noOw env) te ra) : DS K M env (tDrop (tBM K "list" rAppend (tVar i) (tCons te tNil))) (fun es => env.set i (.ow es)) eb (toO (ra.bind (addL ds))) := fun σ G0 H0 B G H T s q => by
  cases ra with
  | none => exact q.elim
  | some d =>
    obtain ⟨l, xs, h1, h2, h3, h4, h5⟩ := s.ow i ds hi
    refine ⟨.ref l, h1, Or.inl ⟨rfl, _, Or.inl (Or.inl h2)⟩, ?_⟩
    refine h σ G H _ d s.shd s.ext.gh rfl fun v G' H' E hd => ?_
    have s' := s.ext' E
    have h2' := E.hh _ _ h2
    change Post K M _ eb T G0 H0 B (toO (addL ds d)) at q
    unfold addL at q
    by_cases hz : ds.length < sizeLine
    · rw [if_pos hz] at q
      have hlen := dpa_len h5
      exact ⟨l, xs, v, rfl, rfl, h2', by omega, q σ G' _ (s'.chg hi h1 h2' (dpa_app (dpa_mono E.gg _ _ h5) (dpa_one hd)))⟩
    · rw [if_neg hz] at q; exact q.elim
end
end Dl

set_option Elab.async false
set_option linter.all false
set_option maxRecDepth 100000
set_option maxHeartbeats 2000000
namespace Dl
open PySem PySem.Spec PyProof.Rows L2
/-! ### loops -/
def forO {α β : Type} (body : α → D → Out α α) : List D → α → Out α β
  | [], a => .nx a
  | x :: xs, a => match body a x with
    | .nx b => forO body xs b
    | .ct b => forO body xs b
    | .bk b => .nx b
    | .rt d => .rt d
    | .no => .no
    | .xc x => .xc x
def forR {α β : Type} (body : α → D → Out α α) (rI : Option (List D)) (a : α) : Out α β := match rI with
  | some ds => forO body ds a
  | none => .no
def whileO {α β : Type} (c : α → Option Bool) (body : α → Out α α) : Nat → α → Out α β
  | 0, _ => .no
  | n + 1, a => match c a with
    | none => .no
    | some false => .nx a
    | some true => match body a with
      | .nx b => whileO c body n b
      | .ct b => whileO c body n b
      | .bk b => .nx b
      | .rt d => .rt d
      | .no => .no
      | .xc x => .xc x
def fpN (F : Nat → List Addr) (vs : List Nat) (j : Nat) : List Addr := if j ∈ vs then [] else F j
section
variable {K : PySem.W.Frag} {M : Md} {env env' : En} {te : TE} {tt : TT} {t u : TS} {ra rb : Option D} {rt : Option Bool} {rA rI : Option (List D)} {α β γ : Type} {en : α → En} {eb : β → En} {ec : γ → En}
theorem SS.base {env : En} {σ : L2.St} {G0 H0 B B' G H : Hp} (s : SS K env σ G0 H0 B G H) (h : Same B' G) : SS K env σ G0 H0 B' G H := ⟨s.ext, h, s.len, s.fp⟩
/-- the state's slots, own ones hidden, by a target's binding -/
theorem SS.bind {env env' : En} {σ σ2 : L2.St} {G0 H0 B G H : Hp} {vs : List Nat} (s : SS K env σ G0 H0 B G H) (se : SE K (noOw env') σ2 G) (hl : env'.length = env.length) (hk : ∀ i, i ∉ vs → σ2[i]? = σ[i]? ∧ env'[i]? = env[i]?) (hv : ∀ i ∈ vs, ∀ sl : Sl, env'[i]? = some sl → sl.sm = true) : SS K env' σ2 G0 H0 B G H := by
  obtain ⟨F, f1, f2, f3⟩ := s.fp
  have fi : ∀ i ∈ vs, fpN F vs i = [] := fun i h => if_pos h
  have fo : ∀ i, i ∉ vs → fpN F vs i = F i := fun i h => if_neg h
  refine ⟨s.ext, s.bg, by have := se.len; unfold noOw at this; rw [List.length_map] at this; exact this, fpN F vs, fun i sl h => ?_, fun i a h => ?_, fun i j a hij ha hb => ?_⟩
  · by_cases c : i ∈ vs
    · have hs := hv i c sl h
      obtain ⟨o, h1, h2⟩ := se.at' i sl (by
        unfold noOw; rw [List.getElem?_map, h]
        show some (hid sl) = some sl
        unfold hid; rw [hs])
      rw [fi i c]
      exact ⟨o, h1, (sl.pe hs).mpr ⟨rfl, h2⟩⟩
    · rw [fo i c]
      obtain ⟨k1, k2⟩ := hk i c
      rw [k2] at h; rw [k1]
      exact f1 i sl h
  · by_cases c : i ∈ vs
    · rw [fi i c] at h; cases h
    · rw [fo i c] at h; exact f2 i a h
  · by_cases c : i ∈ vs
    · rw [fi i c] at ha; cases ha
    · rw [fo i c] at ha
      by_cases c2 : j ∈ vs
      · rw [fi j c2] at hb; cases hb
      · rw [fo j c2] at hb; exact f3 i j a hij ha hb
/-- for: the turn's state a, its slots e a -/
theorem ds_for {wi : TI} {g : TG} {tb : TS} {vs : List Nat} {b : En → D → Option En} {e : α → En} {body : α → D → Out α α} {a0 : α}
    (hi : DI K (noOw env) wi rI) (hg : BG K g vs b) (h0 : Le (e a0) env)
    (hb : ∀ a x, (∃ env1 o, b (noOw (e a)) x = some (noOw env1) ∧ env1.length = (e a).length ∧ (∀ i, i ∉ vs → env1[i]? = (e a)[i]?) ∧ (∀ i ∈ vs, ∀ sl : Sl, env1[i]? = some sl → sl.sm = true) ∧ DS K M env1 tb e e o ∧ body a x = o) ∨ body a x = .no) :
    DS K M env (tFor wi g tb) e eb (forR body rI a0) := fun σ G0 H0 B G H T s q => by
  cases rI with
  | none => exact q.elim
  | some ds =>
    refine hi σ G H _ ds s.shd s.ext.gh rfl fun J G1 H1 E1 ok => ?_
    have s1 := s.ext' E1
    obtain ⟨G2, s2, g2⟩ := s1.weak h0
    refine ⟨fun i m σ' H' => i ≤ ds.length ∧ m = ds.length - i ∧ ∃ (a : α) (G' : Hp), SS K (e a) σ' G0 H0 B G' H' ∧ Same G1 G' ∧ Post K M e eb T G0 H0 B (forO body (ds.drop i) a : Out α β),
      ⟨ds.length, Nat.zero_le _, by omega, a0, G2, s2, g2, by rw [List.drop_zero]; exact q⟩, ?_⟩
    rintro i m σ' H' ⟨hi', rfl, a, G', s', g', p⟩
    by_cases hlt : i < ds.length
    · right
      refine ⟨ok.go G' H' i g' s'.ext.gh hlt, fun σ'' H'' => ∃ m', m' < ds.length - i ∧ (i + 1 ≤ ds.length ∧ m' = ds.length - (i + 1) ∧ ∃ (a : α) (G' : Hp), SS K (e a) σ'' G0 H0 B G' H'' ∧ Same G1 G' ∧ Post K M e eb T G0 H0 B (forO body (ds.drop (i + 1)) a : Out α β)), fun σ'' H'' h => h, fun x H3 hy => ?_⟩
      obtain ⟨G3, E3, hx⟩ := ok.yl G' H' i x H3 ds[i] g' s'.ext.gh (List.getElem?_eq_getElem hlt) hy
      have s3 := s'.ext' E3
      rw [drop_cons hlt] at p
      unfold forO at p
      rcases hb a ds[i] with ⟨env1, o, eb1, l1, k1, v1, hd, ho⟩ | hno
      · refine hg (noOw (e a)) (noOw env1) σ' G3 H3 x ds[i] _ s3.shd s3.ext.gh hx eb1 fun σ2 se2 _ f2 => ?_
        have s4 : SS K env1 σ2 G0 H0 B G3 H3 := s3.bind (vs := vs) se2 l1 (fun i hi => ⟨(f2 i hi).1, k1 i hi⟩) v1
        have s5 : SS K env1 σ2 G0 H0 G3 G3 H3 := s4.base (Same.refl _)
        refine hd σ2 G0 H0 G3 G3 H3 _ s5 ?_
        rw [ho] at p
        have gB : ∀ {G6 : Hp}, Same G3 G6 → Same B G6 := fun z => s4.bg.trans z
        have g1 : ∀ {G6 : Hp}, Same G3 G6 → Same G1 G6 := fun z => (g'.trans E3.gg).trans z
        cases o with
        | nx c => exact fun σ6 G6 H6 s6 => ⟨_, by omega, hlt, rfl, c, G6, s6.base (gB s6.bg), g1 s6.bg, p⟩
        | ct c => exact fun σ6 G6 H6 s6 => ⟨_, by omega, hlt, rfl, c, G6, s6.base (gB s6.bg), g1 s6.bg, p⟩
        | bk c => exact fun σ6 G6 H6 s6 => p σ6 G6 H6 (s6.base (gB s6.bg))
        | rt d => exact p
        | no => exact p
        | xc x => exact fun σ6 G6 H6 cls dd s6 r6 => p σ6 G6 H6 cls dd (s6.base (gB s6.bg)) r6
      · rw [hno] at p; exact p.elim
    · left
      have ei : i = ds.length := by omega
      subst ei
      rw [List.drop_length] at p
      exact ⟨ok.stop G' H' _ g' s'.ext.gh (Nat.le_refl _), p σ' G' H' s'⟩
theorem noOw_set {env : En} {i : Nat} {d : D} : (noOw env).set i (.sh d) = noOw (env.set i (.sh d)) := by
  unfold noOw; rw [List.map_set]; rfl
/-- for x in .. (a name) -/
theorem ds_forN {wi : TI} {tb : TS} {j : Nat} {e : α → En} {body : α → D → Out α α} {a0 : α}
    (hi : DI K (noOw env) wi rI) (h0 : Le (e a0) env) (hb : ∀ a x, DS K M ((e a).set j (.sh x)) tb e e (body a x)) :
    DS K M env (tFor wi (gName j) tb) e eb (forR body rI a0) :=
  ds_for hi (bg_name j) h0 fun a x => .inl ⟨(e a).set j (.sh x), body a x, by rw [noOw_set], by rw [List.length_set], fun i h => by
    have : j ≠ i := fun z => h (by simp [z])
    exact List.getElem?_set_ne this, fun i h sl z => by
      simp at h; subst h
      rcases set_some z with ⟨_, e1, _⟩ | ⟨ne, _⟩
      · rw [e1]; rfl
      · exact absurd rfl ne, hb a x, rfl⟩
def twoD {β : Type} (x : D) (k : D → D → β) (no : β) : β := match x with
  | .tuple [a, b] => k a b
  | _ => no
/-- for x, y in .. -/
theorem ds_for2 {wi : TI} {tb : TS} {i j : Nat} {e : α → En} {body : α → D → D → Out α α} {a0 : α}
    (hi : DI K (noOw env) wi rI) (h0 : Le (e a0) env) (hb : ∀ a x y, DS K M (((e a).set i (.sh x)).set j (.sh y)) tb e e (body a x y)) :
    DS K M env (tFor wi (gTup K 2 (gCons (gName i) (gCons (gName j) gNil))) tb) e eb (forR (fun a x => twoD x (body a) .no) rI a0) := by
  refine ds_for hi (bg_tup (bgs_cons (bg_name i) (bgs_cons (bg_name j) bgs_nil))) h0 fun a x => ?_
  have other : ∀ {z : D}, (∀ p q, z ≠ .tuple [p, q]) → twoD z (body a) (Out.no : Out α α) = .no := fun {z} h => by
    unfold twoD
    split
    · exact absurd rfl (h _ _)
    · rfl
  by_cases hx : ∃ p q, x = .tuple [p, q]
  · obtain ⟨p, q, rfl⟩ := hx
    refine .inl ⟨((e a).set i (.sh p)).set j (.sh q), body a p q, ?_, by rw [List.length_set, List.length_set], fun k h => ?_, fun k h ds z => ?_, hb a p q, rfl⟩
    · show (some (((noOw (e a)).set i (.sh p)).set j (.sh q)) : Option En) = _
      rw [noOw_set, noOw_set]
    · have hk : k ≠ i ∧ k ≠ j := by simpa using h
      rw [List.getElem?_set_ne (Ne.symm hk.2), List.getElem?_set_ne (Ne.symm hk.1)]
    · rcases set_some z with ⟨_, e1, _⟩ | ⟨ne, z⟩
      · rw [e1]; rfl
      · rcases set_some z with ⟨_, e1, _⟩ | ⟨ne2, _⟩
        · rw [e1]; rfl
        · have hk : k = i ∨ k = j := by simpa using h
          rcases hk with rfl | rfl
          · exact absurd rfl ne2
          · exact absurd rfl ne
  · refine .inr (other fun p q z => hx ⟨p, q, z⟩)
theorem ds_while {tb : TS} {e : α → En} {c : α → Option Bool} {body : α → Out α α} {a0 : α} (n : Nat) (h0 : Le (e a0) env)
    (hc : ∀ a, DT K (e a) tt (c a)) (hb : ∀ a, DS K M (e a) tb e e (body a)) : DS K M env (tWhile tt tb) e eb (whileO c body n a0) := fun σ G0 H0 B G H T s q => by
  obtain ⟨G2, s2, g2⟩ := s.weak h0
  refine ⟨fun m σ' H' => ∃ (a : α) (G' : Hp), SS K (e a) σ' G0 H0 B G' H' ∧ Post K M e eb T G0 H0 B (whileO c body m a : Out α β), ⟨n, a0, G2, s2, q⟩, ?_⟩
  rintro m σ' H' ⟨a, G', s', p⟩
  cases m with
  | zero => exact p.elim
  | succ m =>
    unfold whileO at p
    cases ec : c a with
    | none => rw [ec] at p; exact p.elim
    | some bb =>
      rw [ec] at p
      refine hc a σ' H' H' _ bb s'.all (Same.refl _) ec fun G3 H3 E3 => ?_
      have s3 := s'.grow E3.hh
      cases bb with
      | false => rw [if_neg Bool.false_ne_true]; exact p σ' G' H3 s3
      | true =>
        rw [if_pos rfl]
        refine ⟨fun σ'' H'' => ∃ m', m' < m + 1 ∧ ∃ (a : α) (G' : Hp), SS K (e a) σ'' G0 H0 B G' H'' ∧ Post K M e eb T G0 H0 B (whileO c body m' a : Out α β), fun σ'' H'' h => h, ?_⟩
        refine hb a σ' G0 H0 B G' H3 _ s3 ?_
        change Post K M e eb T G0 H0 B (match body a with | .nx b => whileO c body m b | .ct b => whileO c body m b | .bk b => .nx b | .rt d => .rt d | .no => .no | .xc x => .xc x : Out α β) at p
        cases ho : body a with
        | nx b => rw [ho] at p; exact fun σ6 G6 H6 s6 => ⟨m, by omega, b, G6, s6, p⟩
        | ct b => rw [ho] at p; exact fun σ6 G6 H6 s6 => ⟨m, by omega, b, G6, s6, p⟩
        | bk b => rw [ho] at p; exact p
        | rt d => rw [ho] at p; exact p
        | no => rw [ho] at p; exact p
        | xc x => rw [ho] at p; exact p
/-- while True, no way out but a return -/
def whileT {α β γ : Type} (body : α → Out α α) : Nat → α → Out γ β
  | 0, _ => .no
  | n + 1, a => match body a with
    | .nx b => whileT body n b
    | .ct b => whileT body n b
    | .bk _ => .no
    | .rt d => .rt d
    | .no => .no
    | .xc x => .xc x
theorem ds_whileT {tb : TS} {e : α → En} {body : α → Out α α} {a0 : α} {en' : γ → En} (n : Nat) (h0 : Le (e a0) env)
    (hc : ∀ a, DT K (e a) tt (some true)) (hb : ∀ a, DS K M (e a) tb e e (body a)) : DS K M env (tWhile tt tb) en' eb (whileT body n a0) := fun σ G0 H0 B G H T s q => by
  obtain ⟨G2, s2, g2⟩ := s.weak h0
  refine ⟨fun m σ' H' => ∃ (a : α) (G' : Hp), SS K (e a) σ' G0 H0 B G' H' ∧ Post K M en' eb T G0 H0 B (whileT body m a : Out γ β), ⟨n, a0, G2, s2, q⟩, ?_⟩
  rintro m σ' H' ⟨a, G', s', p⟩
  cases m with
  | zero => exact p.elim
  | succ m =>
    unfold whileT at p
    refine hc a σ' H' H' _ true s'.all (Same.refl _) rfl fun G3 H3 E3 => ?_
    have s3 := s'.grow E3.hh
    rw [if_pos rfl]
    refine ⟨fun σ'' H'' => ∃ m', m' < m + 1 ∧ ∃ (a : α) (G' : Hp), SS K (e a) σ'' G0 H0 B G' H'' ∧ Post K M en' eb T G0 H0 B (whileT body m' a : Out γ β), fun σ'' H'' h => h, ?_⟩
    refine hb a σ' G0 H0 B G' H3 _ s3 ?_
    cases ho : body a with
    | nx b => rw [ho] at p; exact fun σ6 G6 H6 s6 => ⟨m, by omega, b, G6, s6, p⟩
    | ct b => rw [ho] at p; exact fun σ6 G6 H6 s6 => ⟨m, by omega, b, G6, s6, p⟩
    | bk b => rw [ho] at p; exact p.elim
    | rt d => rw [ho] at p; exact p
    | no => rw [ho] at p; exact p
    | xc x => rw [ho] at p; exact p
/-! ### stores -/
def setL (ds : List D) (i : D) (d : D) : Option (List D) := match i with
  | .int k => (ixN ds.length k).map fun j => ds.set j d
  | _ => none
def setIO (ds : List D) (ra ri : Option D) : Option (List D) := (atomO ra).bind fun d => ri.bind fun k => setL ds k d
/-- xs[i] = e, xs an own list; e and i without parts, own lists looked at -/
theorem ds_setI {i : Nat} {ti : TE} {ri : Option D} {ds : List D} (hi : env[i]? = some (Sl.ow ds)) (h : DV K env te ra) (hk : DV K env ti ri) :
    DS K M env (tAsg te (gSub (tVar i) ti rSetL)) (fun es => env.set i (.ow es)) eb (toO (setIO ds ra ri)) := fun σ G0 H0 B G H T s q => by
  change Post K M _ eb T G0 H0 B (toO ((atomO ra).bind fun d => ri.bind fun k => setL ds k d)) at q
  cases e : atomO ra with
  | none => rw [e] at q; exact q.elim
  | some d =>
    rw [e] at q
    obtain ⟨e1, e2⟩ := atomO_some e
    refine h σ H H _ d s.all (Same.refl H) e1 fun v G' H' E hd => ?_
    have s1 := s.grow E.hh
    obtain ⟨l, xs, h1, h2, h3, h4, h5⟩ := s1.ow i ds hi
    refine ⟨.ref l, h1, ?_⟩
    cases ei : ri with
    | none => rw [ei] at q; exact q.elim
    | some k =>
      rw [ei] at q
      change Post K M _ eb T G0 H0 B (toO (setL ds k d)) at q
      refine hk σ H' H' _ k s1.all (Same.refl H') ei fun w G2 H2 E2 hw => ?_
      have s2 := s1.grow E2.hh
      have h2' := E2.hh _ _ h2
      cases k with
      | int k =>
        cases hw
        change Post K M _ eb T G0 H0 B (toO ((ixN ds.length k).map fun j => ds.set j d)) at q
        cases ej : ixN ds.length k with
        | none => rw [ej] at q; exact q.elim
        | some j =>
          rw [ej] at q
          refine ⟨l, xs, k, j, rfl, rfl, h2', by rw [dpa_len h5]; exact ej, q σ G _ (s2.chg hi h1 h2' (dpa_set (dp_atom e2 hd) j h5))⟩
      | _ => exact q.elim
def setIX (ds : List D) (ra ri : Option D) : Option (List D) := ra.bind fun d => ri.bind fun k => setL ds k d
/-- xs[i] = e, xs an own list, e shared data -/
theorem ds_setIX {i : Nat} {ti : TE} {ri : Option D} {ds : List D} (hi : env[i]? = some (Sl.ow ds)) (h : DV K (noOw env) te ra) (hk : DV K (noOw env) ti ri) :
    DS K M env (tAsg te (gSub (tVar i) ti rSetL)) (fun es => env.set i (.ow es)) eb (toO (setIX ds ra ri)) := fun σ G0 H0 B G H T s q => by
  cases e1 : ra with
  | none => rw [e1] at q; exact q.elim
  | some d =>
    rw [e1] at q
    refine h σ G H _ d s.shd s.ext.gh e1 fun v G' H' E hd => ?_
    have s1 := s.ext' E
    obtain ⟨l, xs, h1, h2, h3, h4, h5⟩ := s1.ow i ds hi
    refine ⟨.ref l, h1, ?_⟩
    cases ei : ri with
    | none => rw [ei] at q; exact q.elim
    | some k =>
      rw [ei] at q
      change Post K M _ eb T G0 H0 B (toO (setL ds k d)) at q
      refine hk σ G' H' _ k s1.shd s1.ext.gh ei fun w G2 H2 E2 hw => ?_
      have s2 := s1.ext' E2
      have h2' := E2.hh _ _ h2
      cases k with
      | int k =>
        cases hw
        change Post K M _ eb T G0 H0 B (toO ((ixN ds.length k).map fun j => ds.set j d)) at q
        cases ej : ixN ds.length k with
        | none => rw [ej] at q; exact q.elim
        | some j =>
          rw [ej] at q
          refine ⟨l, xs, k, j, rfl, rfl, h2', by rw [dpa_len h5]; exact ej, q σ G2 _ (s2.chg hi h1 h2' (dpa_set (dp_mono E2.gg _ _ hd) j (dpa_mono E2.gg _ _ h5)))⟩
      | _ => exact q.elim
/-- x = xs.pop(), xs an own list -/
def popO (ds : List D) : Option (D × List D) := (ds[ds.length - 1]?).bind fun d => some (d, ds.dropLast)
theorem ds_pop {i j : Nat} {ds : List D} (hi : env[i]? = some (Sl.ow ds)) (hij : j ≠ i := by decide) : DS K M env (tAsg (tBM0 K "list" rPop (tVar i)) (gName j)) (fun (p : D × List D) => (env.set i (.ow p.2)).set j (.sh p.1)) eb
    (toO (popO ds)) := fun σ G0 H0 B G H T s q => by
  obtain ⟨l, xs, h1, h2, h3, h4, h5⟩ := s.ow i ds hi
  have hlen := dpa_len h5
  cases e : ds[ds.length - 1]? with
  | none => rw [show popO ds = none by unfold popO; rw [e]; rfl] at q; exact q.elim
  | some d =>
    rw [show popO ds = some (d, ds.dropLast) by unfold popO; rw [e]; rfl] at q
    obtain ⟨v, hv, hd⟩ := dpa_get h5 e
    refine ⟨.ref l, h1, Or.inl ⟨rfl, _, Or.inl (Or.inl h2)⟩, l, xs, v, rfl, rfl, h2, by rw [hlen]; exact hv, ?_⟩
    have := s.chg (ys := xs.dropLast) (es := ds.dropLast) hi h1 h2 (by rw [List.dropLast_eq_take, List.dropLast_eq_take, hlen]; exact dpa_take _ h5)
    exact q _ G _ (this.set j hd)
/-- x op= e -/
def IpD (K : PySem.W.Frag) (r : TIp) (f : D → D → Option D) : Prop := OpD K r f
theorem ds_aug {i : Nat} {ti : TIp} {f : D → D → Option D} {x : D} (hi : env[i]? = some (Sl.sh x)) (ho : IpD K ti f) (h : DV K (noOw env) te ra) :
    DS K M env (tAug i te ti) (fun d => env.set i (.sh d)) eb (toO (ra.bind fun y => f x y)) := fun σ G0 H0 B G H T s q => by
  obtain ⟨v, h1, h2⟩ := s.sh i x hi
  cases ra with
  | none => exact q.elim
  | some y =>
    change Post K M _ eb T G0 H0 B (toO (f x y)) at q
    refine ⟨v, h1, h σ G H _ y s.shd s.ext.gh rfl fun w G1 H1 E1 hw => ?_⟩
    have s1 := s.ext' E1
    cases ef : f x y with
    | none => rw [ef] at q; exact q.elim
    | some d =>
      rw [ef] at q
      exact ho G1 H1 _ x y d v w s1.ext.gh (dp_mono E1.gg x v h2) hw ef fun z G2 H2 E2 hz => q _ G2 H2 ((s1.ext' E2).set i hz)
/-- a, b = e1, e2 -/
def twoO (r : Option (List D)) : Option (D × D) := r.bind fun ds => match ds with
  | [a, b] => some (a, b)
  | _ => none
theorem ds_par {i j : Nat} {ta : TA} (h : DA K (noOw env) ta rA) : DS K M env (tPar i j ta) (fun (p : D × D) => (env.set i (.sh p.1)).set j (.sh p.2)) eb (toO (twoO rA)) := fun σ G0 H0 B G H T s q => by
  cases e : twoO rA with
  | none => rw [e] at q; exact q.elim
  | some p =>
    rw [e] at q
    obtain ⟨ds, e1, e2⟩ := bind_some e
    match ds, e1, e2 with
    | [a, b], e1, e2 =>
      cases e2
      refine h σ G H _ _ s.shd s.ext.gh e1 fun vs G1 H1 E1 hv => ?_
      cases hv with
      | cons r t => cases t with
        | cons r2 t => cases t; exact ⟨_, _, rfl, q _ G1 H1 (((s.ext' E1).set i r).set j r2)⟩
/-- a, b = e, e a tuple -/
theorem ds_unp {i j : Nat} (h : DV K (noOw env) te ra) : DS K M env (tAsg te (gTup K 2 (gCons (gName i) (gCons (gName j) gNil)))) (fun (p : D × D) => (env.set i (.sh p.1)).set j (.sh p.2)) eb (toO (twoO (ra.bind asU))) := fun σ G0 H0 B G H T s q => by
  cases e : twoO (ra.bind asU) with
  | none => rw [e] at q; exact q.elim
  | some p =>
    rw [e] at q
    obtain ⟨ds, e1, e2⟩ := bind_some e
    obtain ⟨x, ex, eu⟩ := bind_some e1
    have := asU_some eu; subst this
    match ds, e1, eu, e2, ex with
    | [a, b], e1, eu, e2, ex =>
      cases e2
      refine h σ G H _ _ s.shd s.ext.gh ex fun v G1 H1 E1 hv => ?_
      cases hv with
      | tup hs hd =>
        have s1 := s.ext' E1
        refine ⟨_, _, rfl, sqt_mono E1.gh hs, by rw [dpa_len hd]; rfl, ?_⟩
        cases hd with
        | cons r t => cases t with
          | cons r2 t => cases t; exact ⟨_, _, rfl, _, _, rfl, rfl, q _ G1 H1 ((s1.set i r).set j r2)⟩
def threeO (r : Option (List D)) : Option (D × D × D) := r.bind fun ds => match ds with
  | [a, b, c] => some (a, b, c)
  | _ => none
theorem ds_unp3 {i j k : Nat} (h : DV K (noOw env) te ra) : DS K M env (tAsg te (gTup K 3 (gCons (gName i) (gCons (gName j) (gCons (gName k) gNil))))) (fun (p : D × D × D) => ((env.set i (.sh p.1)).set j (.sh p.2.1)).set k (.sh p.2.2)) eb (toO (threeO (ra.bind asU))) := fun σ G0 H0 B G H T s q => by
  cases e : threeO (ra.bind asU) with
  | none => rw [e] at q; exact q.elim
  | some p =>
    rw [e] at q
    obtain ⟨ds, e1, e2⟩ := bind_some e
    obtain ⟨x, ex, eu⟩ := bind_some e1
    have := asU_some eu; subst this
    match ds, e1, eu, e2, ex with
    | [a, b, c], e1, eu, e2, ex =>
      cases e2
      refine h σ G H _ _ s.shd s.ext.gh ex fun v G1 H1 E1 hv => ?_
      cases hv with
      | tup hs hd =>
        have s1 := s.ext' E1
        refine ⟨_, _, rfl, sqt_mono E1.gh hs, by rw [dpa_len hd]; rfl, ?_⟩
        cases hd with
        | cons r t => cases t with
          | cons r2 t => cases t with
            | cons r3 t => cases t; exact ⟨_, _, rfl, _, _, rfl, _, _, rfl, rfl, q _ G1 H1 (((s1.set i r).set j r2).set k r3)⟩
end
/-! ### a def -/
theorem start_env {K : PySem.W.Frag} {G H : Hp} {vs : List V} {ds : List D} {N : List Str} (g : Same G H) (h : DpAll K G vs ds) (hn : ds.length ≤ N.length) :
    SS K (ds.map Sl.sh ++ List.replicate (N.length - ds.length) Sl.un) (L2.start N vs) G H G G H := by
  have hl := dpa_len h
  have nh : ∀ (i : Nat) (s : Sl), (ds.map Sl.sh ++ List.replicate (N.length - ds.length) Sl.un)[i]? = some s → (∃ d, ds[i]? = some d ∧ s = .sh d) ∨ s = .un := fun i s hs => by
    rcases Nat.lt_or_ge i ds.length with z | z
    · rw [List.getElem?_append_left (by simpa using z), List.getElem?_map, List.getElem?_eq_getElem z] at hs
      exact .inl ⟨ds[i], List.getElem?_eq_getElem z, by simpa using hs.symm⟩
    · rw [List.getElem?_append_right (by simpa using z)] at hs
      have := List.mem_of_getElem? hs
      exact .inr (List.eq_of_mem_replicate this)
  refine ⟨Ext.refl g, Same.refl G, by unfold L2.start; simp [hl], fun _ => [], fun i s hs => ?_, fun i a h => absurd h List.not_mem_nil, fun i j a _ h => absurd h List.not_mem_nil⟩
  have hi : i < (L2.start N vs).length := by
    rcases Nat.lt_or_ge i (ds.map Sl.sh ++ List.replicate (N.length - ds.length) Sl.un).length with z | z
    · unfold L2.start; simp at z ⊢; omega
    · rw [List.getElem?_eq_none z] at hs; cases hs
  rcases nh i _ hs with ⟨d', e, rfl⟩ | rfl
  · obtain ⟨v, hv, r⟩ := dpa_get h e
    have hi : i < vs.length := by
      rcases Nat.lt_or_ge i vs.length with z | z
      · exact z
      · rw [List.getElem?_eq_none z] at hv; cases hv
    refine ⟨some v, ?_, rfl, v, rfl, r⟩
    unfold L2.start
    rw [List.getElem?_append_left (by simpa using hi), List.getElem?_map, hv]; rfl
  · exact ⟨_, List.getElem?_eq_getElem hi, rfl, trivial⟩
/-- the body's o is what the mirror says -/
theorem fn_body {K : PySem.W.Frag} {m : List D → Option D} {N : List Str} {t : TS} {vs : List V} {H : Hp} {Q : VK} {E : XK} (h : spD K m vs H Q E) (hn : ∀ ds d, m ds = some d → ds.length ≤ N.length)
    (hb : ∀ ds d, m ds = some d → ∃ (β : Type) (eb : β → En) (α : Type) (en : α → En) (o : Out α β), DS K (.no (RtS K)) (ds.map Sl.sh ++ List.replicate (N.length - ds.length) Sl.un) t en eb o ∧ o.run = some d) :
    t { nx := fun _ H' => Q .non H', rt := Q } (L2.start N vs) H := by
  obtain ⟨G, ds, d, g, ha, e, q⟩ := h
  obtain ⟨β, eb, α, en, o, hd, ho⟩ := hb ds d e
  refine hd _ G H G G H _ (start_env g ha (hn ds d e)) ?_
  cases o with
  | nx a => cases ho; exact fun σ G' H' s => q .non G' H' s.ext .non
  | rt d' => cases ho; exact fun v G' H' r => q v G' H' r.1 r.2
  | bk b => cases ho
  | ct b => cases ho
  | no => cases ho
  | xc x => cases ho
/-- what a def promises that hands back a list of nobody's -/
def spL (K : PySem.W.Frag) (m : List D → Option D) : Sp := fun vs H Q _ => ∃ (G : Hp) (ds : List D) (d : D), Same G H ∧ DpAll K G vs ds ∧ m ds = some d ∧ ∀ v G' H', RtL K G H G' H' v d → Q v H'
theorem fn_bodyL {K : PySem.W.Frag} {m : List D → Option D} {N : List Str} {t : TS} {vs : List V} {H : Hp} {Q : VK} {E : XK} (h : spL K m vs H Q E) (hn : ∀ ds d, m ds = some d → ds.length ≤ N.length)
    (hb : ∀ ds d, m ds = some d → ∃ (β : Type) (eb : β → En) (en : Empty → En) (o : Out Empty β), DS K (.no (RtL K)) (ds.map Sl.sh ++ List.replicate (N.length - ds.length) Sl.un) t en eb o ∧ o.run = some d) :
    t { nx := fun _ H' => Q .non H', rt := Q } (L2.start N vs) H := by
  obtain ⟨G, ds, d, g, ha, e, q⟩ := h
  obtain ⟨β, eb, en, o, hd, ho⟩ := hb ds d e
  refine hd _ G H G G H _ (start_env g ha (hn ds d e)) ?_
  cases o with
  | nx a => cases a
  | rt d' => cases ho; exact fun v G' H' r => q v G' H' r
  | bk b => cases ho
  | ct b => cases ho
  | no => cases ho
  | xc x => cases ho
theorem spL_spD {K : PySem.W.Frag} {m : List D → Option D} {vs : List V} {H : Hp} {Q : VK} {E : XK} (h : spD K m vs H Q E) : spL K m vs H Q E := by
  obtain ⟨G, ds, d, g, ha, e, q⟩ := h
  refine ⟨G, ds, d, g, ha, e, ?_⟩
  rintro v G' H' ⟨E, p, xs, es, rfl, rfl, hp, gp, hl, hd⟩
  refine q _ (upd G' p (.lst xs)) H' ⟨E.gg.trans (same_upd gp), E.hh, fun b o eb => ?_, fun a ha ga => ?_⟩ (.lst upd_same (dpa_mono (same_upd gp) _ xs hd))
  · by_cases z : b = p
    · subst z; rw [upd_same] at eb; rw [hl]; exact eb
    · rw [upd_ne z] at eb; exact E.gh b o eb
  · have z : a ≠ p := fun z => ha (by rw [z]; exact hp)
    rw [upd_ne z]; exact E.nw a ha ga
/-- a call that hands back a list of nobody's -/
theorem dl_call {K : PySem.W.Frag} {env : En} {tA : TA} {rA : Option (List D)} {m : List D → Option D} {E : XK} (h : DA K env tA rA) : DL K env (tCall (spL K m) [] E tA) ((rA.bind m).bind asL) := fun σ G H Q es s g e q => by
  obtain ⟨d, e1, e2⟩ := bind_some e
  obtain ⟨ds, e3, e4⟩ := bind_some e1
  have := asL_some e2; subst this
  refine h σ G H _ ds s g e3 fun vs G1 H1 E1 h1 => ?_
  refine ⟨G1, ds, _, E1.gh, by rw [List.append_nil]; exact h1, e4, ?_⟩
  rintro v G' H' ⟨E', p, xs, es', rfl, e5, hp, gp, hl, hd⟩
  cases e5
  exact q p xs G' H' (E1.trans E') (E1.hh.free hp) gp hl hd
end Dl

set_option Elab.async false
set_option linter.all false
set_option maxRecDepth 100000
set_option maxHeartbeats 2000000
namespace Dl
open PySem PySem.Spec PyProof.Rows L2
section
variable {X : Cx}
/-! ### operators: the reading by values, its mirror on data -/
theorem op_catS : OpR X (binaryOp .Add) (fun x y H Q => ∃ l b xs zs, x = .ref l ∧ y = .ref b ∧ Rd H l (.lst xs) ∧ Rd H b (.lst zs) ∧ xs.length + zs.length ≤ sizeLine ∧ ∀ p, H p = none → Q (.ref p) (upd H p (.lst (xs ++ zs)))) := by
  intro pins s σ H x y v u Q I rx ry h
  obtain ⟨l, b, xs, zs, rfl, rfl, hH, hB, hz, q⟩ := h
  cases rx
  cases ry
  obtain ⟨z, its, n, r, e⟩ := hH.ok I.hok
  obtain ⟨z2, its2, n2, r2, e2⟩ := hB.ok I.hok
  have hl := r.length
  have hl2 := r2.length
  refine PySem.P.add_list e e2 ?_ (by rw [List.size_toArray, List.size_toArray]; omega)
  have ea : its.toArray ++ its2.toArray = (its ++ its2).toArray := by simp
  rw [ea]
  exact ⟨.ref _, _, I.lnew (t' := s.toks) (r.append r2) (by rw [List.length_append]; omega), rfl, q _ I.fresh⟩
def rCatS : R2 := fun x y H Q => ∃ l b xs zs, x = .ref l ∧ y = .ref b ∧ Rd H l (.lst xs) ∧ Rd H b (.lst zs) ∧ xs.length + zs.length ≤ sizeLine ∧ ∀ p, H p = none → Q (.ref p) (upd H p (.lst (xs ++ zs)))
theorem op_cat' : OpR X (binaryOp .Add) rCatS := op_catS
def rAddSt : R2 := fun x y H Q => ∃ i j, x = .str i ∧ y = .str j ∧ i.length + j.length ≤ sizeLine ∧ Q (.str (i ++ j)) H
def rAddX : R2 := fun x y H Q => rI0 (fun i j => .int (i + j)) x y H Q ∨ rAddSt x y H Q ∨ rCatS x y H Q
theorem op_addX : OpR X (binaryOp .Add) rAddX := op_add.or ((show OpR X (binaryOp .Add) rAddSt from op_add_str).or op_cat')
end
def addD : D → D → Option D
  | .int i, .int j => some (.int (i + j))
  | .str a, .str b => if a.length + b.length ≤ sizeLine then some (.str (a ++ b)) else none
  | .list a, .list b => if a.length + b.length ≤ sizeLine then some (.list (a ++ b)) else none
  | _, _ => none
def catL : D → D → Option (List D)
  | .list a, .list b => if a.length + b.length ≤ sizeLine then some (a ++ b) else none
  | _, _ => none
section
variable {K : PySem.W.Frag}
theorem ol_cat : OpL K rCatS catL := fun G H Q x y d v w g hx hy e q => by
  match x, y, hx, hy, e with
  | .list a, .list b, .lst h1 h2, .lst h3 h4, e =>
    replace e : (if a.length + b.length ≤ sizeLine then some (a ++ b) else none) = some d := e
    by_cases hz : a.length + b.length ≤ sizeLine
    · rw [if_pos hz] at e; cases e
      refine ⟨_, _, _, _, rfl, rfl, rd_mono g (.inl h1), rd_mono g (.inl h3), by rw [dpa_len h2, dpa_len h4]; exact hz, fun p hp => ?_⟩
      exact q p _ G _ (Ext.own g hp) hp (g.free hp) upd_same (dpa_app h2 h4)
    · rw [if_neg hz] at e; cases e
theorem od_add : OpD K rAddX addD := fun G H Q x y d v w g hx hy e q => by
  match x, y, hx, hy, e with
  | .int i, .int j, .int _, .int _, e => cases e; exact .inl ⟨i, j, rfl, rfl, q _ G H (Ext.refl g) (.int _)⟩
  | .str a, .str b, .str _, .str _, e =>
    replace e : (if a.length + b.length ≤ sizeLine then some (PyData.str (a ++ b)) else none) = some d := e
    by_cases hz : a.length + b.length ≤ sizeLine
    · rw [if_pos hz] at e; cases e
      exact .inr (.inl ⟨a, b, rfl, rfl, hz, q _ G H (Ext.refl g) (.str _)⟩)
    · rw [if_neg hz] at e; cases e
  | .list a, .list b, .lst h1 h2, .lst h3 h4, e =>
    replace e : (if a.length + b.length ≤ sizeLine then some (PyData.list (a ++ b)) else none) = some d := e
    by_cases hz : a.length + b.length ≤ sizeLine
    · rw [if_pos hz] at e; cases e
      refine .inr (.inr ⟨_, _, _, _, rfl, rfl, rd_mono g (.inl h1), rd_mono g (.inl h3), by rw [dpa_len h2, dpa_len h4]; exact hz, fun p hp => ?_⟩)
      have gp := g.free hp
      exact q _ _ _ (Ext.new g hp) (.lst upd_same (dpa_mono (same_upd gp) _ _ (dpa_app h2 h4)))
    · rw [if_neg hz] at e; cases e
/-- an operation on two ints -/
def intD (c : Int → Int → Bool) (f : Int → Int → D) : D → D → Option D
  | .int i, .int j => if c i j = true then some (f i j) else none
  | _, _ => none
theorem od_rI {C : Int → Int → Prop} {g : Int → Int → V} {c : Int → Int → Bool} {f : Int → Int → D} (hc : ∀ i j, c i j = true → C i j) (hf : ∀ i j H, Dp K H (g i j) (f i j)) : OpD K (rI C g) (intD c f) := fun G H Q x y d v w gh hx hy e q => by
  match x, y, hx, hy, e with
  | .int i, .int j, .int _, .int _, e =>
    replace e : (if c i j = true then some (f i j) else none) = some d := e
    by_cases hz : c i j = true
    · rw [if_pos hz] at e; cases e
      exact ⟨i, j, rfl, rfl, hc i j hz, q _ G H (Ext.refl gh) (hf i j G)⟩
    · rw [if_neg hz] at e; cases e
def intD0 (f : Int → Int → D) : D → D → Option D
  | .int i, .int j => some (f i j)
  | _, _ => none
theorem od_rI0 {g : Int → Int → V} {f : Int → Int → D} (hf : ∀ i j H, Dp K H (g i j) (f i j)) : OpD K (rI0 g) (intD0 f) := fun G H Q x y d v w gh hx hy e q => by
  match x, y, hx, hy, e with
  | .int i, .int j, .int _, .int _, e => cases e; exact ⟨i, j, rfl, rfl, q _ G H (Ext.refl gh) (hf i j G)⟩
def subD : D → D → Option D := intD0 fun i j => .int (i - j)
theorem od_sub : OpD K (rI0 fun i j => .int (i - j)) subD := od_rI0 fun _ _ _ => .int _
def smallI : Int → Bool
  | .ofNat n => Nat.ble n 18446744073709551615
  | .negSucc n => Nat.ble n 18446744073709551614
theorem smallI_lt {i : Int} (h : smallI i = true) : -(2 ^ 64) < i ∧ i < 2 ^ 64 := by
  cases i with
  | ofNat n =>
    have := Nat.le_of_ble_eq_true h
    show -(2 ^ 64) < (n : Int) ∧ (n : Int) < 2 ^ 64
    omega
  | negSucc n => have := Nat.le_of_ble_eq_true h; omega
theorem smallI_of {i : Int} (h : -1000000000000000 < i ∧ i < 1000000000000000) : smallI i = true := by
  cases i with
  | ofNat n =>
    have h' : -1000000000000000 < (n : Int) ∧ (n : Int) < 1000000000000000 := h
    exact Nat.ble_eq_true_of_le (by omega)
  | negSucc n => exact Nat.ble_eq_true_of_le (by omega)
def mulD : D → D → Option D := intD (fun i j => smallI i || smallI j) fun i j => .int (i * j)
theorem od_mul : OpD K (rI CMul fun i j => .int (i * j)) mulD := od_rI (fun i j h => by
  rw [Bool.or_eq_true] at h
  rcases h with h | h
  · exact .inl (smallI_lt h)
  · exact .inr (smallI_lt h)) fun _ _ _ => .int _
def fdivD : D → D → Option D := intD (fun _ j => decide (0 < j ∧ j < 1073741824)) fun i j => .int (i / j)
theorem od_fdiv : OpD K (rI CDiv fun i j => .int (i / j)) fdivD := od_rI (fun i j h => (show (0 < j ∧ j < 1073741824) from of_decide_eq_true h)) fun _ _ _ => .int _
def modD : D → D → Option D := intD (fun _ j => decide (0 < j)) fun i j => .int (i % j)
theorem od_mod : OpD K (rI (fun _ j => 0 < j) fun i j => .int (i % j)) modD := od_rI (fun i j h => of_decide_eq_true h) fun _ _ _ => .int _
def powD : D → D → Option D := intD (fun i j => decide (0 ≤ j ∧ j ≤ 1000000 ∧ i.natAbs < 2 ^ 64)) fun i j => .int (i ^ j.toNat)
theorem od_pow : OpD K (rI CPow fun i j => .int (i ^ j.toNat)) powD := od_rI (fun i j h => (show (0 ≤ j ∧ j ≤ 1000000 ∧ i.natAbs < 2 ^ 64) from of_decide_eq_true h)) fun _ _ _ => .int _
def ltD : D → D → Option D := intD0 fun i j => .bool (decide (i < j))
def leD : D → D → Option D := intD0 fun i j => .bool (decide (i ≤ j))
def gtD : D → D → Option D := intD0 fun i j => .bool (decide (j < i))
def geD : D → D → Option D := intD0 fun i j => .bool (decide (j ≤ i))
theorem od_lt : OpD K (rI0 fun i j => .bl (decide (i < j))) ltD := od_rI0 fun _ _ _ => .bl _
theorem od_le : OpD K (rI0 fun i j => .bl (decide (i ≤ j))) leD := od_rI0 fun _ _ _ => .bl _
theorem od_gt : OpD K (rI0 fun i j => .bl (decide (j < i))) gtD := od_rI0 fun _ _ _ => .bl _
theorem od_ge : OpD K (rI0 fun i j => .bl (decide (j ≤ i))) geD := od_rI0 fun _ _ _ => .bl _
/-- == and != of data -/
def eqD (x y : D) : Option D := if SeqAt.shaped x = true ∧ SeqAt.shaped y = true then some (.bool (PyData.eqv x y)) else none
def neD (x y : D) : Option D := if SeqAt.shaped x = true ∧ SeqAt.shaped y = true then some (.bool (!PyData.eqv x y)) else none
theorem od_eq : OpD K (rEqD K) eqD := fun G H Q x y d v w g hx hy e q => by
  unfold eqD at e
  by_cases hz : SeqAt.shaped x = true ∧ SeqAt.shaped y = true
  · rw [if_pos hz] at e; cases e
    exact ⟨x, y, dp_lay x v (dp_mono g x v hx), dp_lay y w (dp_mono g y w hy), hz.1, hz.2, q _ G H (Ext.refl g) (.bl _)⟩
  · rw [if_neg hz] at e; cases e
theorem od_ne : OpD K (rNeD K) neD := fun G H Q x y d v w g hx hy e q => by
  unfold neD at e
  by_cases hz : SeqAt.shaped x = true ∧ SeqAt.shaped y = true
  · rw [if_pos hz] at e; cases e
    exact ⟨x, y, dp_lay x v (dp_mono g x v hx), dp_lay y w (dp_mono g y w hy), hz.1, hz.2, q _ G H (Ext.refl g) (.bl _)⟩
  · rw [if_neg hz] at e; cases e
/-- is None, is not None -/
def isNoneD (x y : D) : Option D := match y with
  | .none => some (.bool (match x with | .none => true | _ => false))
  | _ => none
def notNoneD (x y : D) : Option D := match y with
  | .none => some (.bool (match x with | .none => false | _ => true))
  | _ => none
theorem od_isN : OpD K (fun x y H Q => y = .non ∧ Q (.bl (decide (x = .non))) H) isNoneD := fun G H Q x y d v w g hx hy e q => by
  match y, hy, e with
  | .none, .non, e =>
    cases e
    refine ⟨rfl, ?_⟩
    cases hx <;> exact q _ G H (Ext.refl g) (.bl _)
theorem od_notN : OpD K (fun x y H Q => y = .non ∧ Q (.bl (!decide (x = .non))) H) notNoneD := fun G H Q x y d v w g hx hy e q => by
  match y, hy, e with
  | .none, .non, e =>
    cases e
    refine ⟨rfl, ?_⟩
    cases hx <;> exact q _ G H (Ext.refl g) (.bl _)
/-! in: a flat thing in a list or tuple of flat things; a text in a text -/
def toV : D → V
  | .none => .non
  | .bool b => .bl b
  | .int i => .int i
  | .str z => .str z
  | _ => .ty ""
theorem toV_of {H : Hp} {v : V} : ∀ {d : D}, atom d = true → Dp K H v d → v = toV d
  | .none, _, h => by cases h; rfl
  | .bool b, _, h => by cases h; rfl
  | .int i, _, h => by cases h; rfl
  | .str x, _, h => by cases h; rfl
  | .list _, e, _ => by cases e
  | .tuple _, e, _ => by cases e
  | .dict _, e, _ => by cases e
theorem flat_of : ∀ {d : D}, atom d = true → flatV (toV d) = true
  | .none, _ => rfl
  | .bool b, _ => rfl
  | .int i, _ => rfl
  | .str x, _ => rfl
  | .list _, e => by cases e
  | .tuple _, e => by cases e
  | .dict _, e => by cases e
theorem toVs_of {H : Hp} : ∀ {vs : List V} {ds : List D}, ds.all atom = true → DpAll K H vs ds → vs = ds.map toV
  | _, _, _, .nil => rfl
  | _, _, e, .cons r t => by
    rw [List.all_cons, Bool.and_eq_true] at e
    rw [toV_of e.1 r, toVs_of e.2 t]; rfl
theorem flats_of : ∀ {ds : List D}, ds.all atom = true → (ds.map toV).all flatV = true
  | [], _ => rfl
  | d :: ds, e => by
    rw [List.all_cons, Bool.and_eq_true] at e
    rw [List.map_cons, List.all_cons, flat_of e.1, flats_of e.2]; rfl
def eqA : D → D → Bool
  | .none, .none => true
  | .bool a, .bool b => a == b
  | .bool a, .int b => (if a then 1 else 0) == b
  | .int a, .bool b => a == (if b then 1 else 0)
  | .int a, .int b => a == b
  | .str a, .str b => a == b
  | _, _ => false
theorem eqA_is : ∀ {y x : D}, atom y = true → atom x = true → eqV (toV y) (toV x) = eqA y x
  | y, x, hy, hx => by cases y <;> cases x <;> first | (cases hy; done) | (cases hx; done) | rfl
def inSt (x : Str) (y : Str) : Bool := !(Builtin.Str.occurrences y x 0 y.length 1).isEmpty
def memA (x : D) (ys : List D) : Bool := ys.any fun y => eqA y x
theorem memA_is {x : D} (hx : atom x = true) : ∀ {ys : List D}, ys.all atom = true → inV (toV x) (ys.map toV) = memA x ys
  | [], _ => rfl
  | y :: ys, e => by
    rw [List.all_cons, Bool.and_eq_true] at e
    have ih := memA_is hx e.2
    unfold inV memA at ih ⊢
    rw [List.map_cons, List.any_cons, List.any_cons, ih, eqA_is e.1 hx]
def inD (neg : Bool) (x y : D) : Option D := match y with
  | .list ys => if atom x && ys.all atom then some (.bool (if neg then !memA x ys else memA x ys)) else none
  | .tuple ys => if atom x && ys.all atom then some (.bool (if neg then !memA x ys else memA x ys)) else none
  | .str b => match x with
    | .str a => some (.bool (if neg then !inSt a b else inSt a b))
    | _ => none
  | _ => none
def rInStr (neg : Bool) : R2 := fun x y H Q => ∃ i j, x = .str i ∧ y = .str j ∧ Q (.bl (if neg then !inSt i j else inSt i j)) H
def rInX (K : PySem.W.Frag) (neg : Bool) : R2 := fun x y H Q => rIn K neg x y H Q ∨ rInStr neg x y H Q
theorem op_inX {X : Cx} : OpR X (compareOp .In) (rInX X.K false) := op_in_seq.or (show OpR X (compareOp .In) (rInStr false) from op_in_str)
theorem op_notInX {X : Cx} : OpR X (compareOp .NotIn) (rInX X.K true) := op_notIn_seq.or (show OpR X (compareOp .NotIn) (rInStr true) from op_notin_str)
theorem od_in (neg : Bool) : OpD K (rInX K neg) (inD neg) := fun G H Q x y d v w g hx hy e q => by
  match y, hy, e with
  | .list ys, .lst h1 h2, e =>
    replace e : (if (atom x && ys.all atom) = true then some (PyData.bool (if neg then !memA x ys else memA x ys)) else none) = some d := e
    by_cases hz : (atom x && ys.all atom) = true
    · rw [if_pos hz] at e; cases e
      rw [Bool.and_eq_true] at hz
      have ev := toV_of hz.1 hx
      have ew := toVs_of hz.2 h2
      subst ev; subst ew
      refine .inl ⟨_, _, rfl, .inl (.inl (rd_mono g (.inl h1))), flat_of hz.1, flats_of hz.2, ?_⟩
      rw [memA_is hz.1 hz.2]
      exact q _ G H (Ext.refl g) (.bl _)
    · rw [if_neg hz] at e; cases e
  | .tuple ys, .tup h1 h2, e =>
    replace e : (if (atom x && ys.all atom) = true then some (PyData.bool (if neg then !memA x ys else memA x ys)) else none) = some d := e
    by_cases hz : (atom x && ys.all atom) = true
    · rw [if_pos hz] at e; cases e
      rw [Bool.and_eq_true] at hz
      have ev := toV_of hz.1 hx
      have ew := toVs_of hz.2 h2
      subst ev; subst ew
      refine .inl ⟨_, _, rfl, .inr (sqt_mono g h1), flat_of hz.1, flats_of hz.2, ?_⟩
      rw [memA_is hz.1 hz.2]
      exact q _ G H (Ext.refl g) (.bl _)
    · rw [if_neg hz] at e; cases e
  | .str b, .str _, e =>
    match x, hx, e with
    | .str a, .str _, e =>
      cases e
      exact .inr ⟨a, b, rfl, rfl, q _ G H (Ext.refl g) (.bl _)⟩
/-! a subscript, a slice -/
def ixD : D → D → Option D
  | .list ds, .int i => atI ds i
  | .tuple ds, .int i => atI ds i
  | .str z, .int i => if z.length ≤ sizeLine then (atI z.cps.toList i).map fun c => .str ⟨#[c]⟩ else none
  | _, _ => none
theorem dpa_at {H : Hp} {vs : List V} {ds : List D} {i : Int} {d : D} (h : DpAll K H vs ds) (e : atI ds i = some d) : ∃ v, atI vs i = some v ∧ Dp K H v d := by
  unfold atI at e ⊢
  obtain ⟨j, e1, e2⟩ := bind_some e
  rw [dpa_len h, e1]
  exact dpa_get h e2
theorem od_ix : OpD K (rIx K) ixD := fun G H Q x y d v w g hx hy e q => by
  match x, y, hx, hy, e with
  | .list ds, .int i, .lst h1 h2, .int _, e =>
    obtain ⟨v, e1, e2⟩ := dpa_at h2 e
    exact .inl ⟨_, _, i, v, rfl, rfl, .inl (rd_mono g (.inl h1)), e1, q _ G H (Ext.refl g) e2⟩
  | .tuple ds, .int i, .tup h1 h2, .int _, e =>
    obtain ⟨v, e1, e2⟩ := dpa_at h2 e
    exact .inr (.inl ⟨_, _, i, v, rfl, rfl, sqt_mono g h1, e1, q _ G H (Ext.refl g) e2⟩)
  | .str z, .int i, .str _, .int _, e =>
    replace e : (if z.length ≤ sizeLine then (atI z.cps.toList i).map fun c => PyData.str ⟨#[c]⟩ else none) = some d := e
    by_cases hz : z.length ≤ sizeLine
    · rw [if_pos hz] at e
      cases ec : atI z.cps.toList i with
      | none => rw [ec] at e; cases e
      | some c => rw [ec] at e; cases e; exact .inr (.inr ⟨z, i, c, rfl, rfl, hz, ec, q _ G H (Ext.refl g) (.str _)⟩)
    · rw [if_neg hz] at e; cases e
/-- a slice's part -/
def partD : D → Option (Option Int)
  | .int i => some (some i)
  | _ => none
theorem do_none {env : En} : DO K env tNoPart (some none) := fun σ G H Q o s g e q => by
  cases e; exact q G H (Ext.refl g)
theorem do_part {env : En} {te : TE} {ra : Option D} (h : DV K env te ra) : DO K env (tPart te) (ra.bind partD) := fun σ G H Q o s g e q => by
  obtain ⟨x, ex, e⟩ := bind_some e
  match x, ex, e with
  | .int i, ex, e =>
    cases e
    refine h σ G H _ _ s g ex fun v G1 H1 E1 h1 => ?_
    cases h1
    exact ⟨i, rfl, q G1 H1 E1⟩
def cutD (ds : List D) (lo hi : Option Int) : List D := (ds.drop (HT.sIx ds.length 0 lo)).take (HT.sIx ds.length ds.length hi - HT.sIx ds.length 0 lo)
theorem dpa_cut {H : Hp} {vs : List V} {ds : List D} (lo hi : Option Int) (h : DpAll K H vs ds) : DpAll K H (cutV vs lo hi) (cutD ds lo hi) := by
  unfold cutV cutD
  rw [dpa_len h]
  exact dpa_take _ (dpa_drop _ h)
def SlD (K : PySem.W.Frag) (r : V → Option Int → Option Int → Hp → VK → Prop) (f : D → Option Int → Option Int → Option D) : Prop := ∀ (G H : Hp) (Q : VK) x lo hi d v, Same G H → Dp K G v x → f x lo hi = some d → (∀ v G' H', Ext G H G' H' → Dp K G' v d → Q v H') → r v lo hi H Q
def SlLs (K : PySem.W.Frag) (r : V → Option Int → Option Int → Hp → VK → Prop) (f : D → Option Int → Option Int → Option (List D)) : Prop := ∀ (G H : Hp) (Q : VK) x lo hi ds v, Same G H → Dp K G v x → f x lo hi = some ds → (∀ p ys G' H', Ext G H G' H' → H p = none → G' p = none → H' p = some (.lst ys) → DpAll K G' ys ds → Q (.ref p) H') → r v lo hi H Q
def slO {α : Type} (f : D → Option Int → Option Int → Option α) (ra : Option D) (rl rh : Option (Option Int)) : Option α := ra.bind fun x => rl.bind fun lo => rh.bind fun hi => f x lo hi
theorem dv_sl {env : En} {r : V → Option Int → Option Int → Hp → VK → Prop} {f : D → Option Int → Option Int → Option D} {te : TE} {tl th : TO} {ra : Option D} {rl rh : Option (Option Int)} (ho : SlD K r f) (h : DV K env te ra) (hl : DO K env tl rl) (hh : DO K env th rh) :
    DV K env (tSl r te tl th) (slO f ra rl rh) := fun σ G H Q d s g e q => by
  obtain ⟨x, ex, e⟩ := bind_some e
  obtain ⟨lo, el, e⟩ := bind_some e
  obtain ⟨hi, eh, e⟩ := bind_some e
  refine h σ G H _ _ s g ex fun v G1 H1 E1 h1 => ?_
  refine hl σ G1 H1 _ _ (s.mono E1.gg) E1.gh el fun G2 H2 E2 => ?_
  refine hh σ G2 H2 _ _ (s.mono (E1.gg.trans E2.gg)) E2.gh eh fun G3 H3 E3 => ?_
  exact ho G3 H3 Q x lo hi d v E3.gh (dp_mono (E2.gg.trans E3.gg) x v h1) e fun u G4 H4 E4 h4 => q u G4 H4 (((E1.trans E2).trans E3).trans E4) h4
theorem dl_sl {env : En} {r : V → Option Int → Option Int → Hp → VK → Prop} {f : D → Option Int → Option Int → Option (List D)} {te : TE} {tl th : TO} {ra : Option D} {rl rh : Option (Option Int)} (ho : SlLs K r f) (h : DV K env te ra) (hl : DO K env tl rl) (hh : DO K env th rh) :
    DL K env (tSl r te tl th) (slO f ra rl rh) := fun σ G H Q d s g e q => by
  obtain ⟨x, ex, e⟩ := bind_some e
  obtain ⟨lo, el, e⟩ := bind_some e
  obtain ⟨hi, eh, e⟩ := bind_some e
  refine h σ G H _ _ s g ex fun v G1 H1 E1 h1 => ?_
  refine hl σ G1 H1 _ _ (s.mono E1.gg) E1.gh el fun G2 H2 E2 => ?_
  refine hh σ G2 H2 _ _ (s.mono (E1.gg.trans E2.gg)) E2.gh eh fun G3 H3 E3 => ?_
  have E13 := (E1.trans E2).trans E3
  exact ho G3 H3 Q x lo hi d v E3.gh (dp_mono (E2.gg.trans E3.gg) x v h1) e fun p ys G4 H4 E4 hp gp hl hd => q p ys G4 H4 (E13.trans E4) (E13.hh.free hp) gp hl hd
def cutLs : D → Option Int → Option Int → Option (List D)
  | .list ds, lo, hi => some (cutD ds lo hi)
  | _, _, _ => none
theorem sl_ls : SlLs K (rSlL K) cutLs := fun G H Q x lo hi ds v g hx e q => by
  match x, hx, e with
  | .list es, .lst h1 h2, e =>
    cases e
    exact ⟨_, _, rfl, .inl (rd_mono g (.inl h1)), fun p hp => q p _ G _ (Ext.own g hp) hp (g.free hp) upd_same (dpa_cut lo hi h2)⟩
def rSlX (K : PySem.W.Frag) : V → Option Int → Option Int → Hp → VK → Prop := fun x lo hi H Q => rSlL K x lo hi H Q ∨ rSlS x lo hi H Q
theorem sl_X {X : Cx} : SlR X (rSlX X.K) := sl_list.or sl_str
def slD : D → Option Int → Option Int → Option D
  | .list ds, lo, hi => some (.list (cutD ds lo hi))
  | .str z, lo, hi => if z.length ≤ sizeLine then some (.str (cutS z lo hi)) else none
  | _, _, _ => none
theorem sd_X : SlD K (rSlX K) slD := fun G H Q x lo hi d v g hx e q => by
  match x, hx, e with
  | .list es, .lst h1 h2, e =>
    cases e
    refine .inl ⟨_, _, rfl, .inl (rd_mono g (.inl h1)), fun p hp => ?_⟩
    exact q _ _ _ (Ext.new g hp) (.lst upd_same (dpa_mono (same_upd (g.free hp)) _ _ (dpa_cut lo hi h2)))
  | .str z, .str _, e =>
    replace e : (if z.length ≤ sizeLine then some (PyData.str (cutS z lo hi)) else none) = some d := e
    by_cases hz : z.length ≤ sizeLine
    · rw [if_pos hz] at e; cases e
      exact .inr ⟨z, rfl, hz, q _ G H (Ext.refl g) (.str _)⟩
    · rw [if_neg hz] at e; cases e
/-! built-ins -/
def lenD : List D → Option D
  | [.list ds] => some (.int ds.length)
  | [.tuple ds] => some (.int ds.length)
  | [.str z] => if z.length ≤ sizeLine then some (.int z.length) else none
  | _ => none
theorem cd_len : ClD K (fun xs H Q => ∃ x n, xs = [x] ∧ LenV K x H n ∧ Q (.int n) H) lenD := fun G H Q xs d vs g hx e q => by
  match xs, hx, e with
  | [.list ds], .cons (.lst h1 h2) .nil, e => cases e; exact ⟨_, _, rfl, .inl ⟨_, .inl (rd_mono g (.inl h1)), (dpa_len h2).symm⟩, q _ G H (Ext.refl g) (.int _)⟩
  | [.tuple ds], .cons (.tup h1 h2) .nil, e => cases e; exact ⟨_, _, rfl, .inr ⟨_, sqt_mono g h1, (dpa_len h2).symm⟩, q _ G H (Ext.refl g) (.int _)⟩
  | [.str z], .cons (.str _) .nil, e =>
    replace e : (if z.length ≤ sizeLine then some (PyData.int z.length) else none) = some d := e
    by_cases hz : z.length ≤ sizeLine
    · rw [if_pos hz] at e; cases e
      exact ⟨_, _, rfl, ⟨hz, rfl⟩, q _ G H (Ext.refl g) (.int _)⟩
    · rw [if_neg hz] at e; cases e
def intTD : List D → Option D
  | [.int i] => some (.int i)
  | [.bool k] => some (.int (if k then 1 else 0))
  | [.str z] => if z.length ≤ 640 then (PySem.intText? z).map .int else none
  | _ => none
def rIntX : List V → Hp → VK → Prop := fun xs H Q => ((∃ i, xs = [.int i] ∧ Q (.int i) H) ∨ ∃ k, xs = [.bl k] ∧ Q (.int (if k then 1 else 0)) H) ∨ ∃ a n, xs = [.str a] ∧ PySem.intText? a = some n ∧ a.length ≤ 640 ∧ Q (.int n) H
theorem cr_intX {X : Cx} : CallR X (.type "int") rIntX := call_int1.or call_int_str
theorem cd_int : ClD K rIntX intTD := fun G H Q xs d vs g hx e q => by
  match xs, hx, e with
  | [.int i], .cons (.int _) .nil, e => cases e; exact .inl (.inl ⟨i, rfl, q _ G H (Ext.refl g) (.int _)⟩)
  | [.bool k], .cons (.bl _) .nil, e => cases e; exact .inl (.inr ⟨k, rfl, q _ G H (Ext.refl g) (.int _)⟩)
  | [.str z], .cons (.str _) .nil, e =>
    replace e : (if z.length ≤ 640 then (PySem.intText? z).map PyData.int else none) = some d := e
    by_cases hz : z.length ≤ 640
    · rw [if_pos hz] at e
      cases en : PySem.intText? z with
      | none => rw [en] at e; cases e
      | some n => rw [en] at e; cases e; exact .inr ⟨z, n, rfl, en, hz, q _ G H (Ext.refl g) (.int _)⟩
    · rw [if_neg hz] at e; cases e
def strTD : List D → Option D
  | [.int i] => if i.natAbs.log2 < 1920 then some (.str (toString i)) else none
  | _ => none
theorem cd_str : ClD K (fun xs H Q => ∃ i, xs = [.int i] ∧ i.natAbs.log2 < 1920 ∧ Q (.str (toString i)) H) strTD := fun G H Q xs d vs g hx e q => by
  match xs, hx, e with
  | [.int i], .cons (.int _) .nil, e =>
    replace e : (if i.natAbs.log2 < 1920 then some (PyData.str (toString i)) else none) = some d := e
    by_cases hz : i.natAbs.log2 < 1920
    · rw [if_pos hz] at e; cases e; exact ⟨i, rfl, hz, q _ G H (Ext.refl g) (.str _)⟩
    · rw [if_neg hz] at e; cases e
def absD : List D → Option D
  | [.int i] => some (.int (if i < 0 then -i else i))
  | _ => none
theorem cd_abs : ClD K (fun xs H Q => ∃ i, xs = [.int i] ∧ Q (.int (if i < 0 then -i else i)) H) absD := fun G H Q xs d vs g hx e q => by
  match xs, hx, e with
  | [.int i], .cons (.int _) .nil, e => cases e; exact ⟨i, rfl, q _ G H (Ext.refl g) (.int _)⟩
def boolsD : List D → Option (List Bool)
  | [] => some []
  | .bool b :: ds => (boolsD ds).map (b :: ·)
  | _ :: _ => none
def intsD : List D → Option (List Int)
  | [] => some []
  | .int b :: ds => (intsD ds).map (b :: ·)
  | _ :: _ => none
theorem map_some {α β : Type} {o : Option α} {f : α → β} {y : β} (h : o.map f = some y) : ∃ x, o = some x ∧ f x = y := by
  cases o with
  | none => cases h
  | some x => exact ⟨x, rfl, Option.some.inj h⟩
theorem bools_of {H : Hp} : ∀ {vs : List V} {ds : List D} {bs : List Bool}, DpAll K H vs ds → boolsD ds = some bs → vs = bs.map V.bl
  | _, _, _, .nil, e => by cases e; rfl
  | _, d :: ds, bs, .cons r t, e => by
    match d, r, e with
    | .bool b, .bl _, e =>
      obtain ⟨cs, e1, e2⟩ := map_some (show (boolsD ds).map (b :: ·) = some bs from e)
      rw [bools_of t e1, ← e2]; rfl
theorem ints_of {H : Hp} : ∀ {vs : List V} {ds : List D} {bs : List Int}, DpAll K H vs ds → intsD ds = some bs → vs = bs.map V.int
  | _, _, _, .nil, e => by cases e; rfl
  | _, d :: ds, bs, .cons r t, e => by
    match d, r, e with
    | .int b, .int _, e =>
      obtain ⟨cs, e1, e2⟩ := map_some (show (intsD ds).map (b :: ·) = some bs from e)
      rw [ints_of t e1, ← e2]; rfl
def allD : List D → Option D
  | [.list ds] => (boolsD ds).map fun bs => .bool (bs.all id)
  | _ => none
def anyD : List D → Option D
  | [.list ds] => (boolsD ds).map fun bs => .bool (bs.any id)
  | _ => none
def sumD : List D → Option D
  | [.list ds] => (intsD ds).map fun ns => .int ns.sum
  | _ => none
theorem cd_all : ClD K (rAll K) allD := fun G H Q xs d vs g hx e q => by
  match xs, hx, e with
  | [.list ds], .cons (.lst h1 h2) .nil, e =>
    obtain ⟨bs, e1, e2⟩ := map_some (show (boolsD ds).map (fun bs => PyData.bool (bs.all id)) = some d from e)
    subst e2
    exact ⟨_, bs, rfl, by rw [← bools_of h2 e1]; exact .inl (rd_mono g (.inl h1)), q _ G H (Ext.refl g) (.bl _)⟩
theorem cd_any : ClD K (rAny K) anyD := fun G H Q xs d vs g hx e q => by
  match xs, hx, e with
  | [.list ds], .cons (.lst h1 h2) .nil, e =>
    obtain ⟨bs, e1, e2⟩ := map_some (show (boolsD ds).map (fun bs => PyData.bool (bs.any id)) = some d from e)
    subst e2
    exact ⟨_, bs, rfl, by rw [← bools_of h2 e1]; exact .inl (rd_mono g (.inl h1)), q _ G H (Ext.refl g) (.bl _)⟩
theorem cd_sum : ClD K (rSum K) sumD := fun G H Q xs d vs g hx e q => by
  match xs, hx, e with
  | [.list ds], .cons (.lst h1 h2) .nil, e =>
    obtain ⟨bs, e1, e2⟩ := map_some (show (intsD ds).map (fun bs => PyData.int bs.sum) = some d from e)
    subst e2
    exact ⟨_, bs, rfl, by rw [← ints_of h2 e1]; exact .inl (rd_mono g (.inl h1)), q _ G H (Ext.refl g) (.int _)⟩
def gcdD : List D → Option D
  | [.int a, .int b] => some (.int ((Nat.gcd a.natAbs b.natAbs : Nat) : Int))
  | _ => none
theorem cd_gcd : ClD K rGcd gcdD := fun G H Q xs d vs g hx e q => by
  match xs, hx, e with
  | [.int a, .int b], .cons (.int _) (.cons (.int _) .nil), e => cases e; exact ⟨a, b, rfl, q _ G H (Ext.refl g) (.int _)⟩
/-- list(x) -/
def listLs : List D → Option (List D)
  | [.list ds] => some ds
  | [.tuple ds] => some ds
  | _ => none
theorem cl_list : ClL K (fun xs H Q => ∃ p ys, xs = [.ref p] ∧ (SqL K H p ys ∨ SqT K H p ys) ∧ ∀ l, H l = none → Q (.ref l) (upd H l (.lst ys))) listLs := fun G H Q xs ds vs g hx e q => by
  match xs, hx, e with
  | [.list es], .cons (.lst h1 h2) .nil, e => cases e; exact ⟨_, _, rfl, .inl (.inl (rd_mono g (.inl h1))), fun p hp => q p _ G _ (Ext.own g hp) hp (g.free hp) upd_same h2⟩
  | [.tuple es], .cons (.tup h1 h2) .nil, e => cases e; exact ⟨_, _, rfl, .inr (sqt_mono g h1), fun p hp => q p _ G _ (Ext.own g hp) hp (g.free hp) upd_same h2⟩
/-- isinstance(x, T), T a built-in class -/
def tyN : D → String
  | .none => "NoneType"
  | .bool _ => "bool"
  | .int _ => "int"
  | .str _ => "str"
  | .list _ => "list"
  | .tuple _ => "tuple"
  | .dict _ => "dict"
def isT (T : String) (d : D) : Bool := match d with
  | .bool _ => T == "bool" || T == "int"
  | d => T == tyN d
theorem tyx_of {H : Hp} {v : V} {d : D} (h : Dp K H v d) : TyX K H v (.type (tyN d)) := by
  cases h with
  | non => exact .base .non
  | bl b => exact .base (.bl b)
  | int i => exact .base (.int i)
  | str z => exact .base (.str z)
  | lst h1 h2 => exact .base (.lst h1)
  | tup h1 h2 =>
    rcases h1 with (h | ⟨o, h⟩) | ⟨o, its, n, hk, hc, _⟩
    · exact .base (.tup h)
    · exact .fTuple h
    · exact .kTuple hk hc
def okT (T : String) : Prop := ∀ d : D, kitB (tyN d) T = some (isT T d)
theorem okT_by {T : String} (h : (["NoneType", "bool", "int", "str", "list", "tuple", "dict"].all fun n => kitB n T == some (if n == "bool" then T == "bool" || T == "int" else T == n)) = true) : okT T := fun d => by
  have k : ∀ n ∈ ["NoneType", "bool", "int", "str", "list", "tuple", "dict"], kitB n T = some (if n == "bool" then T == "bool" || T == "int" else T == n) := fun n hn => eq_of_beq (List.all_eq_true.mp h n hn)
  cases d with
  | none => exact k "NoneType" (by decide)
  | bool b => exact k "bool" (by decide)
  | int i => exact k "int" (by decide)
  | str z => exact k "str" (by decide)
  | list a => exact k "list" (by decide)
  | tuple a => exact k "tuple" (by decide)
  | dict a => exact k "dict" (by decide)
theorem okT_int : okT "int" := okT_by (by decide +kernel)
theorem okT_bool : okT "bool" := okT_by (by decide +kernel)
theorem okT_str : okT "str" := okT_by (by decide +kernel)
theorem okT_list : okT "list" := okT_by (by decide +kernel)
theorem okT_tuple : okT "tuple" := okT_by (by decide +kernel)
def isO (T : String) (ra : Option D) : Option D := ra.bind fun d => some (.bool (isT T d))
theorem dv_isi {env : En} {te : TE} {ra : Option D} {T : String} (hT : okT T) (h : DV K env te ra) : DV K env (tCB (rIsi K) (tCons te (tCons (tC (.ty T)) tNil))) (isO T ra) := fun σ G H Q d s g e q => by
  obtain ⟨x, ex, e⟩ := bind_some e
  cases e
  refine h σ G H _ _ s g ex fun v G1 H1 E1 h1 => ?_
  exact ⟨v, _, _, _, isT T x, rfl, .ty T, tyx_of (dp_mono E1.gh x v h1), kit_ty (hT x), q _ G1 H1 E1 (.bl _)⟩
def negD : D → Option D
  | .int i => some (.int (-i))
  | _ => none
theorem ud_neg : UnD K (rU fun i => .int (-i)) negD := fun G H Q x d v g hx e q => by
  match x, hx, e with
  | .int i, .int _, e => cases e; exact ⟨i, rfl, q _ G H (Ext.refl g) (.int _)⟩
end
end Dl

set_option Elab.async false
set_option linter.all false
set_option maxRecDepth 100000
set_option maxHeartbeats 2000000
namespace Dl
open PySem PySem.Spec PyProof.Rows L2
/-! ### defs of the text -/
def env0 (n : Nat) (ds : List D) : En := ds.map Sl.sh ++ List.replicate (n - ds.length) Sl.un
/-- the def that the module calls x does what m says -/
structure Df (P : Program) (w : World) (K : PySem.W.Frag) (mg : Str → Option Value) (base : Heap) (k : Nat) (x : Str) (ps : List Str) (m : List D → Option D) : Prop where
  ex : ∃ f fd, mg x = some (.ref f) ∧ PySem.W.keepIn K (.ref f) = true ∧ Binds K fd ps [] ∧ FnOk P w K mg base CX0 k f fd ps (spD K m)
/-- the script's defs: the first argument the script -/
def spS (K : PySem.W.Frag) (m : List Int → List D → Option D) : Sp := fun vs H Q _ => ∃ (a : Addr) (ns : List Int) (ws : List V) (ds : List D) (d : D) (G : Hp), Same G H ∧ vs = .ref a :: ws ∧ SqL K G a (ns.map V.int) ∧ DpAll K G ws ds ∧ m ns ds = some d ∧ ∀ v G' H', Ext G H G' H' → Dp K G' v d → Q v H'
structure DfS (P : Program) (w : World) (K : PySem.W.Frag) (mg : Str → Option Value) (base : Heap) (k : Nat) (x : Str) (ps : List Str) (m : List Int → List D → Option D) : Prop where
  ex : ∃ f fd, mg x = some (.ref f) ∧ PySem.W.keepIn K (.ref f) = true ∧ Binds K fd ps [] ∧ FnOk P w K mg base CX0 k f fd ps (spS K m)
section
variable {P : Program} {w : World} {K : PySem.W.Frag} {mg : Str → Option Value} {base : Heap} {x qual : Str} {st : Stmt} {f : Addr} {fd : FuncData} {N ps : List Str} {k : Nat}
theorem df_mk {m : List D → Option D} (F : Fun K x qual st f fd) (S : FnScope N ps (defScope st)) (hm : mg x = some (.ref f)) (hb : Binds K fd ps []) (hl : ∀ ds d, m ds = some d → ds.length = ps.length) (hN : ps.length ≤ N.length)
    (body : ∀ (cdv : Value) (A : Around) (outer : List Env) (s : Shared) (H : Hp) (E : XK), Room k (A.deeper (envOfC qual (defScope st) s.heap.objs.size f cdv)) →
      ∃ t, PSs (cxOf CX0 P w K mg base N qual (defScope st) f cdv A outer s H E).nox (defBody st) t ∧
        ∀ ds d, m ds = some d → ∃ (β : Type) (eb : β → En) (α : Type) (en : α → En) (o : Out α β), DS K (.no (RtS K)) (env0 N.length ds) t en eb o ∧ o.run = some d) : Df P w K mg base (k + 1) x ps m := by
  refine ⟨f, fd, hm, F.kp, hb, ?_⟩
  refine F.ok S (fun vs H Q E h => ?_) fun cdv A outer s H vs Q E hr h => ?_
  · obtain ⟨G, ds, d, _, ha, e, _⟩ := h
    rw [dpa_len ha]; exact hl ds d e
  · obtain ⟨t, h1, h2⟩ := body cdv A outer s H E hr
    exact ⟨t, h1, fn_body h (fun ds d e => by rw [hl ds d e]; exact hN) h2⟩
/-- the def that the module calls x does what m says, and hands back a list of nobody's -/
structure DfL (P : Program) (w : World) (K : PySem.W.Frag) (mg : Str → Option Value) (base : Heap) (k : Nat) (x : Str) (ps : List Str) (m : List D → Option D) : Prop where
  ex : ∃ f fd, mg x = some (.ref f) ∧ PySem.W.keepIn K (.ref f) = true ∧ Binds K fd ps [] ∧ FnOk P w K mg base CX0 k f fd ps (spL K m)
theorem dfL_mk {m : List D → Option D} (F : Fun K x qual st f fd) (S : FnScope N ps (defScope st)) (hm : mg x = some (.ref f)) (hb : Binds K fd ps []) (hl : ∀ ds d, m ds = some d → ds.length = ps.length) (hN : ps.length ≤ N.length)
    (body : ∀ (cdv : Value) (A : Around) (outer : List Env) (s : Shared) (H : Hp) (E : XK), Room k (A.deeper (envOfC qual (defScope st) s.heap.objs.size f cdv)) →
      ∃ t, PSs (cxOf CX0 P w K mg base N qual (defScope st) f cdv A outer s H E).nox (defBody st) t ∧
        ∀ ds d, m ds = some d → ∃ (β : Type) (eb : β → En) (en : Empty → En) (o : Out Empty β), DS K (.no (RtL K)) (env0 N.length ds) t en eb o ∧ o.run = some d) : DfL P w K mg base (k + 1) x ps m := by
  refine ⟨f, fd, hm, F.kp, hb, ?_⟩
  refine F.ok S (fun vs H Q E h => ?_) fun cdv A outer s H vs Q E hr h => ?_
  · obtain ⟨G, ds, d, _, ha, e, _⟩ := h
    rw [dpa_len ha]; exact hl ds d e
  · obtain ⟨t, h1, h2⟩ := body cdv A outer s H E hr
    exact ⟨t, h1, fn_bodyL h (fun ds d e => by rw [hl ds d e]; exact hN) h2⟩
theorem DfL.df {P : Program} {w : World} {K : PySem.W.Frag} {mg : Str → Option Value} {base : Heap} {k : Nat} {x : Str} {ps : List Str} {m : List D → Option D} (d : DfL P w K mg base k x ps m) : Df P w K mg base k x ps m := by
  obtain ⟨f, fd, h1, h2, h3, h4⟩ := d.ex
  exact ⟨f, fd, h1, h2, h3, ⟨fun vs H Q E h => h4.1 vs H Q E (spL_spD h), fun A outer s H args us vs Q E hr he hb hv hs => h4.2 A outer s H args us vs Q E hr he hb hv (spL_spD hs)⟩⟩
theorem start_envS {G H : Hp} {a : Addr} {ns : List Int} {ws : List V} {ds : List D} (g : Same G H) (hs : SqL K G a (ns.map V.int)) (h : DpAll K G ws ds) (hn : ds.length + 1 ≤ N.length) :
    SS K (.sq ns :: env0 (N.length - 1) ds) (L2.start N (.ref a :: ws)) G H G G H := by
  have hl := dpa_len h
  obtain ⟨x, N', hx⟩ : ∃ x N', N = x :: N' := by
    cases N with
    | nil => simp at hn
    | cons x r => exact ⟨x, r, rfl⟩
  subst hx
  have hst : L2.start (x :: N') (.ref a :: ws) = some (.ref a) :: L2.start N' ws := by
    unfold L2.start; simp
  have s := start_env (K := K) (N := N') g h (by simp at hn; omega)
  rw [hst]
  have he : env0 ((x :: N').length - 1) ds = ds.map Sl.sh ++ List.replicate (N'.length - ds.length) Sl.un := by unfold env0; simp
  rw [he]
  obtain ⟨F, f1, f2, f3⟩ := s.fp
  have fp : ∀ (i : Nat) (sl : Sl), (ds.map Sl.sh ++ List.replicate (N'.length - ds.length) Sl.un)[i]? = some sl → sl.sm = true := fun i sl h => by
    have := List.mem_of_getElem? h
    rcases List.mem_append.mp this with z | z
    · obtain ⟨d, _, rfl⟩ := List.mem_map.mp z; rfl
    · rw [List.eq_of_mem_replicate z]; rfl
  refine ⟨s.ext, s.bg, by simp [s.len], fun _ => [], fun i sl hs => ?_, fun i a h => absurd h List.not_mem_nil, fun i j a _ h => absurd h List.not_mem_nil⟩
  cases i with
  | zero =>
    simp at hs; subst hs
    exact ⟨_, rfl, rfl, a, rfl, hs⟩
  | succ i =>
    have h' := (by simpa using hs : (ds.map Sl.sh ++ List.replicate (N'.length - ds.length) Sl.un)[i]? = some sl)
    obtain ⟨o, h1, h2⟩ := f1 i sl h'
    exact ⟨o, by simpa using h1, (sl.pe (fp i sl h')).mpr ⟨rfl, ((sl.pe (fp i sl h')).mp h2).2⟩⟩
theorem fnS_mk {m : List Int → List D → Option D} (F : Fun K x qual st f fd) (S : FnScope N ps (defScope st)) (hl : ∀ ns ds d, m ns ds = some d → ds.length + 1 = ps.length) (hN : ps.length ≤ N.length)
    (body : ∀ (cdv : Value) (A : Around) (outer : List Env) (s : Shared) (H : Hp) (E : XK), Room k (A.deeper (envOfC qual (defScope st) s.heap.objs.size f cdv)) →
      ∃ t, PSs (cxOf CX0 P w K mg base N qual (defScope st) f cdv A outer s H E).nox (defBody st) t ∧
        ∀ ns ds d, m ns ds = some d → ∃ (β : Type) (eb : β → En) (α : Type) (en : α → En) (o : Out α β), DS K (.no (RtS K)) (.sq ns :: env0 (N.length - 1) ds) t en eb o ∧ o.run = some d) : FnOk P w K mg base CX0 (k + 1) f fd ps (spS K m) := by
  refine F.ok S (fun vs H Q E h => ?_) fun cdv A outer s H vs Q E hr h => ?_
  · obtain ⟨a, ns, ws, ds, d, G, _, rfl, _, ha, e, _⟩ := h
    rw [List.length_cons, dpa_len ha]; exact hl ns ds d e
  · obtain ⟨t, h1, h2⟩ := body cdv A outer s H E hr
    refine ⟨t, h1, ?_⟩
    obtain ⟨a, ns, ws, ds, d, G, g, rfl, hs, ha, e, q⟩ := h
    obtain ⟨β, eb, α, en, o, hd, ho⟩ := h2 ns ds d e
    refine hd _ G H G G H _ (start_envS g hs ha (by rw [hl ns ds d e]; exact hN)) ?_
    cases o with
    | nx a => cases ho; exact fun σ G' H' s => q .non G' H' s.ext .non
    | rt d' => cases ho; exact fun v G' H' r => q v G' H' r.1 r.2
    | bk b => cases ho
    | ct b => cases ho
    | no => cases ho
    | xc x => cases ho
theorem dfS_mk {m : List Int → List D → Option D} (F : Fun K x qual st f fd) (S : FnScope N ps (defScope st)) (hm : mg x = some (.ref f)) (hb : Binds K fd ps []) (hl : ∀ ns ds d, m ns ds = some d → ds.length + 1 = ps.length) (hN : ps.length ≤ N.length)
    (body : ∀ (cdv : Value) (A : Around) (outer : List Env) (s : Shared) (H : Hp) (E : XK), Room k (A.deeper (envOfC qual (defScope st) s.heap.objs.size f cdv)) →
      ∃ t, PSs (cxOf CX0 P w K mg base N qual (defScope st) f cdv A outer s H E).nox (defBody st) t ∧
        ∀ ns ds d, m ns ds = some d → ∃ (β : Type) (eb : β → En) (α : Type) (en : α → En) (o : Out α β), DS K (.no (RtS K)) (.sq ns :: env0 (N.length - 1) ds) t en eb o ∧ o.run = some d) : DfS P w K mg base (k + 1) x ps m := ⟨f, fd, hm, F.kp, hb, fnS_mk F S hl hN body⟩
/-- the law's own promise, of the mirror's answer -/
theorem law_end {m : List Int → List D → Option D} {n : Nat} (h : ∀ ns : List Int, ns.length ≤ n → m ns [] = some (.bool true)) (H : Hp) (a : Addr) (ns : List Int) (hl : ns.length ≤ n) (hS : SqL K H a (ns.map V.int)) :
    spS K m [.ref a] H (fun v _ => v = .bl true) fun _ _ _ => False :=
  ⟨a, ns, [], [], .bool true, H, Same.refl H, rfl, hS, .nil, h ns hl, fun v G' H' E hv => by cases hv; rfl⟩
end
section
variable {X : Cx} {k : Nat} {x : Str} {ps : List Str} {e : Expr} {es : List Expr} {t : TA} {p pos : Pos}
theorem pe_df {m : List D → Option D} (d : Df X.prog X.w X.K X.mg X.base k x ps m) (hr : Room k X.A) (hg : Gl X x) (ha : PA X (e :: es) t) (hdb : (x == ("__debug__" : Str)) = false := by decide)
    (he : starEach (e :: es) X.env = (false, eval e X.env) :: starEach es X.env := by rfl) (hpl : (backTo pos (starEach es X.env)).any (·.1) = false := by rfl) :
    PE X (.Call (.Name x p) (e :: es) [] pos) (tCall (spD X.K m) [] E0 t) := by
  obtain ⟨f, fd, h1, h2, h3, h4⟩ := d.ex
  exact pe_call h4 hr hg h1 h2 h3 .nil pass0 ha hdb he hpl
theorem pe_df0 {m : List D → Option D} (d : Df X.prog X.w X.K X.mg X.base k x ps m) (hr : Room k X.A) (hg : Gl X x) (hdb : (x == ("__debug__" : Str)) = false := by decide) :
    PE X (.Call (.Name x p) [] [] pos) (tCall (spD X.K m) [] E0 tNil) := by
  obtain ⟨f, fd, h1, h2, h3, h4⟩ := d.ex
  exact pe_call0 h4 hr hg h1 h2 h3 .nil pass0 hdb
theorem pe_dfS {m : List Int → List D → Option D} (d : DfS X.prog X.w X.K X.mg X.base k x ps m) (hr : Room k X.A) (hg : Gl X x) (ha : PA X (e :: es) t) (hdb : (x == ("__debug__" : Str)) = false := by decide)
    (he : starEach (e :: es) X.env = (false, eval e X.env) :: starEach es X.env := by rfl) (hpl : (backTo pos (starEach es X.env)).any (·.1) = false := by rfl) :
    PE X (.Call (.Name x p) (e :: es) [] pos) (tCall (spS X.K m) [] E0 t) := by
  obtain ⟨f, fd, h1, h2, h3, h4⟩ := d.ex
  exact pe_call h4 hr hg h1 h2 h3 .nil pass0 ha hdb he hpl
end
theorem dv_callS {K : PySem.W.Frag} {env : En} {tA : TA} {rA : Option (List D)} {m : List Int → List D → Option D} {E : XK} (i : Nat) {ns : List Int} (h : DA K env tA rA) (hi : env[i]? = some (Sl.sq ns) := by rfl) :
    DV K env (tCall (spS K m) [] E (tCons (tVar i) tA)) (rA.bind (m ns)) := fun σ G H Q d s g e q => by
  obtain ⟨ds, e1, e2⟩ := bind_some e
  obtain ⟨a, h1, h2⟩ := s.sq i ns hi
  refine ⟨.ref a, h1, ?_⟩
  refine h σ G H _ ds s g e1 fun vs G1 H1 E1 hv => ?_
  exact ⟨a, ns, vs, ds, d, G1, E1.gh, by rw [List.append_nil], E1.gg.seq h2, hv, e2, fun u G3 H3 E3 h3 => q u G3 H3 (E1.trans E3) h3⟩
theorem pe_dfL {X : Cx} {k : Nat} {x : Str} {ps : List Str} {e : Expr} {es : List Expr} {t : TA} {p pos : Pos} {m : List D → Option D} (d : DfL X.prog X.w X.K X.mg X.base k x ps m) (hr : Room k X.A) (hg : Gl X x) (ha : PA X (e :: es) t) (hdb : (x == ("__debug__" : Str)) = false := by decide)
    (he : starEach (e :: es) X.env = (false, eval e X.env) :: starEach es X.env := by rfl) (hpl : (backTo pos (starEach es X.env)).any (·.1) = false := by rfl) :
    PE X (.Call (.Name x p) (e :: es) [] pos) (tCall (spL X.K m) [] E0 t) := by
  obtain ⟨f, fd, h1, h2, h3, h4⟩ := d.ex
  exact pe_call h4 hr hg h1 h2 h3 .nil pass0 ha hdb he hpl
theorem pe_dfL0 {X : Cx} {k : Nat} {x : Str} {ps : List Str} {p pos : Pos} {m : List D → Option D} (d : DfL X.prog X.w X.K X.mg X.base k x ps m) (hr : Room k X.A) (hg : Gl X x) (hdb : (x == ("__debug__" : Str)) = false := by decide) :
    PE X (.Call (.Name x p) [] [] pos) (tCall (spL X.K m) [] E0 tNil) := by
  obtain ⟨f, fd, h1, h2, h3, h4⟩ := d.ex
  exact pe_call0 h4 hr hg h1 h2 h3 .nil pass0 hdb
/-- a constant of the module -/
def Gc (K : PySem.W.Frag) (mg : Str → Option Value) (x : Str) (d : D) : Prop := ∃ u v, mg x = some u ∧ RelV v u ∧ ∀ G, Dp K G v d
/-- for x in (a new list of things without parts) -/
theorem ds_forL {K : PySem.W.Frag} {M : Md} {env : En} {te : TE} {rA : Option (List D)} {α β : Type} {eb : β → En} {tb : TS} {j : Nat} {e : α → En} {body : α → D → Out α α} {a0 : α}
    (hi : DL K env te rA) (h0 : Le (e a0) env) (hb : ∀ a x, DS K M ((e a).set j (.sh x)) tb e e (body a x)) :
    DS K M env (tFor (iList K te) (gName j) tb) e eb (forR body (atomsO rA) a0) := fun σ G0 H0 B G H T s q => by
  cases er : atomsO rA with
  | none => rw [er] at q; exact q.elim
  | some ds =>
    rw [er] at q
    obtain ⟨es, e1, e2⟩ := bind_some er
    by_cases z : es.all atom = true
    · rw [if_pos z] at e2; cases e2
      refine hi σ H H _ ds s.all (Same.refl H) e1 fun p xs G' H' E hp gp hl hd => ?_
      have gp0 : G p = none := s.ext.gh.free hp
      have E1 : Ext G H (upd G p (.lst xs)) H' := ⟨same_upd gp0, E.hh, fun b o eb => by
        by_cases zb : b = p
        · subst zb; rw [upd_same] at eb; rw [hl]; exact eb
        · rw [upd_ne zb] at eb; exact E.hh b o (s.ext.gh b o eb), fun b hb gb => by
        have : b ≠ p := fun zb => hb (by rw [zb]; exact hp)
        rw [upd_ne this]; exact .inl gb⟩
      refine ⟨p, rfl, ⟨xs, .inl (.inl hl)⟩, ?_⟩
      have s1 := s.ext' E1
      -- as ds_forN from here: the list stands on G
      have hit : ItOk K (upd G p (.lst xs)) (Itl K p) ds := it_list (.inl (.inl upd_same)) (dpa_atom z hd)
      obtain ⟨G2, s2, g2⟩ := s1.weak h0
      refine ⟨fun i m σ' H' => i ≤ ds.length ∧ m = ds.length - i ∧ ∃ (a : α) (G' : Hp), SS K (e a) σ' G0 H0 B G' H' ∧ Same (upd G p (.lst xs)) G' ∧ Post K M e eb T G0 H0 B (forO body (ds.drop i) a : Out α β),
        ⟨ds.length, Nat.zero_le _, by omega, a0, G2, s2, g2, by rw [List.drop_zero]; exact q⟩, ?_⟩
      rintro i m σ' H3 ⟨hi', rfl, a, G3, s', g', pp⟩
      by_cases hlt : i < ds.length
      · right
        refine ⟨hit.go G3 H3 i g' s'.ext.gh hlt, fun σ'' H'' => ∃ m', m' < ds.length - i ∧ (i + 1 ≤ ds.length ∧ m' = ds.length - (i + 1) ∧ ∃ (a : α) (G' : Hp), SS K (e a) σ'' G0 H0 B G' H'' ∧ Same (upd G p (.lst xs)) G' ∧ Post K M e eb T G0 H0 B (forO body (ds.drop (i + 1)) a : Out α β)), fun σ'' H'' h => h, fun x H4 hy => ?_⟩
        obtain ⟨G4, E4, hx⟩ := hit.yl G3 H3 i x H4 ds[i] g' s'.ext.gh (List.getElem?_eq_getElem hlt) hy
        have s4 := s'.ext' E4
        rw [drop_cons hlt] at pp
        unfold forO at pp
        have s5 := (s4.set j hx).base (Same.refl G4)
        refine hb a ds[i] _ G0 H0 G4 G4 H4 _ s5 ?_
        have gB : ∀ {G6 : Hp}, Same G4 G6 → Same B G6 := fun z => s4.bg.trans z
        have g1 : ∀ {G6 : Hp}, Same G4 G6 → Same (upd G p (.lst xs)) G6 := fun z => (g'.trans E4.gg).trans z
        cases ho : body a ds[i] with
        | nx c => rw [ho] at pp; exact fun σ6 G6 H6 s6 => ⟨_, by omega, hlt, rfl, c, G6, s6.base (gB s6.bg), g1 s6.bg, pp⟩
        | ct c => rw [ho] at pp; exact fun σ6 G6 H6 s6 => ⟨_, by omega, hlt, rfl, c, G6, s6.base (gB s6.bg), g1 s6.bg, pp⟩
        | bk c => rw [ho] at pp; exact fun σ6 G6 H6 s6 => pp σ6 G6 H6 (s6.base (gB s6.bg))
        | rt d => rw [ho] at pp; exact pp
        | no => rw [ho] at pp; exact pp
        | xc x => rw [ho] at pp; exact fun σ6 G6 H6 cls dd s6 r6 => pp σ6 G6 H6 cls dd (s6.base (gB s6.bg)) r6
      · left
        have ei : i = ds.length := by omega
        subst ei
        rw [List.drop_length] at pp
        exact ⟨hit.stop G3 H3 _ g' s'.ext.gh (Nat.le_refl _), pp σ' G3 H3 s'⟩
    · rw [if_neg z] at e2; cases e2
end Dl

set_option Elab.async false
set_option linter.all false
set_option maxRecDepth 100000
set_option maxHeartbeats 2000000
namespace Dl
open PySem PySem.Spec PyProof.Rows L2
section
variable {K : PySem.W.Frag} {env : En} {to te : TE} {ra rb : Option D}
def strsD : List D → Option (List Str)
  | [] => some []
  | .str b :: ds => (strsD ds).map (b :: ·)
  | _ :: _ => none
theorem strs_of {H : Hp} : ∀ {vs : List V} {ds : List D} {bs : List Str}, DpAll K H vs ds → strsD ds = some bs → vs = bs.map V.str
  | _, _, _, .nil, e => by cases e; rfl
  | _, d :: ds, bs, .cons r t, e => by
    match d, r, e with
    | .str b, .str _, e =>
      obtain ⟨cs, e1, e2⟩ := map_some (show (strsD ds).map (b :: ·) = some bs from e)
      rw [strs_of t e1, ← e2]; rfl
theorem dpa_strs {H : Hp} : ∀ ns : List Str, DpAll K H (ns.map V.str) (ns.map PyData.str)
  | [] => .nil
  | n :: ns => .cons (.str n) (dpa_strs ns)
def joinD (x y : D) : Option D := match x, y with
  | .str a, .list ds => (strsD ds).bind fun ys => if (ys.map (·.length)).sum + ys.length * a.length ≤ 16777216 then some (.str (Txt.join a ys)) else none
  | .str a, .tuple ds => (strsD ds).bind fun ys => if (ys.map (·.length)).sum + ys.length * a.length ≤ 16777216 then some (.str (Txt.join a ys)) else none
  | _, _ => none
theorem dv_join (ho : DV K env to ra) (he : DV K env te rb) : DV K env (tM1 (fun x xs H Q => ∃ a p, ∃ ys : List Str, x = .str a ∧ xs = [.ref p] ∧ (SqL K H p (ys.map V.str) ∨ SqT K H p (ys.map V.str)) ∧
      (ys.map (·.length)).sum + ys.length * a.length ≤ 16777216 ∧ Q (.str (Txt.join a ys)) H) to te) (op2 joinD ra rb) := fun σ G H Q d s g e q => by
  obtain ⟨x, ex, e⟩ := bind_some e
  obtain ⟨y, ey, e⟩ := bind_some e
  refine ho σ G H _ x s g ex fun v G1 H1 E1 h1 => ?_
  match x, y, h1, e with
  | .str a, .list ds, .str _, e =>
    obtain ⟨ys, e1, e2⟩ := bind_some e
    by_cases hz : (ys.map (·.length)).sum + ys.length * a.length ≤ 16777216
    · rw [if_pos hz] at e2; cases e2
      refine ⟨⟨a, rfl⟩, he σ G1 H1 _ _ (s.mono E1.gg) E1.gh ey fun w G2 H2 E2 h2 => ?_⟩
      cases h2 with
      | lst hs hd => exact ⟨a, _, ys, rfl, rfl, .inl (.inl (rd_mono E2.gh (.inl (by rw [← strs_of hd e1]; exact hs)))), hz, q _ G2 H2 (E1.trans E2) (.str _)⟩
    · rw [if_neg hz] at e2; cases e2
  | .str a, .tuple ds, .str _, e =>
    obtain ⟨ys, e1, e2⟩ := bind_some e
    by_cases hz : (ys.map (·.length)).sum + ys.length * a.length ≤ 16777216
    · rw [if_pos hz] at e2; cases e2
      refine ⟨⟨a, rfl⟩, he σ G1 H1 _ _ (s.mono E1.gg) E1.gh ey fun w G2 H2 E2 h2 => ?_⟩
      cases h2 with
      | tup hs hd => exact ⟨a, _, ys, rfl, rfl, .inr (sqt_mono E2.gh (by rw [← strs_of hd e1]; exact hs)), hz, q _ G2 H2 (E1.trans E2) (.str _)⟩
    · rw [if_neg hz] at e2; cases e2
def partitionD (x y : D) : Option D := match x, y with
  | .str a, .str b => if (b.length == 0) = false ∧ a.length ≤ sizeLine then some (.tuple [.str (Txt.partition a b).1, .str (Txt.partition a b).2.1, .str (Txt.partition a b).2.2]) else none
  | _, _ => none
theorem dv_partition (ho : DV K env to ra) (he : DV K env te rb) : DV K env (tM1 (fun x xs H Q => ∃ a b, x = .str a ∧ xs = [.str b] ∧ (b.length == 0) = false ∧ a.length ≤ sizeLine ∧
      ∀ p, H p = none → Q (.ref p) (upd H p (.tup [.str (Txt.partition a b).1, .str (Txt.partition a b).2.1, .str (Txt.partition a b).2.2]))) to te) (op2 partitionD ra rb) := fun σ G H Q d s g e q => by
  obtain ⟨x, ex, e⟩ := bind_some e
  obtain ⟨y, ey, e⟩ := bind_some e
  refine ho σ G H _ x s g ex fun v G1 H1 E1 h1 => ?_
  match x, y, h1, e with
  | .str a, .str b, .str _, e =>
    by_cases hz : (b.length == 0) = false ∧ a.length ≤ sizeLine
    · replace e : (if (b.length == 0) = false ∧ a.length ≤ sizeLine then some (PyData.tuple [.str (Txt.partition a b).1, .str (Txt.partition a b).2.1, .str (Txt.partition a b).2.2]) else none) = some d := e
      rw [if_pos hz] at e; cases e
      refine ⟨⟨a, rfl⟩, he σ G1 H1 _ _ (s.mono E1.gg) E1.gh ey fun w G2 H2 E2 h2 => ?_⟩
      cases h2
      refine ⟨a, b, rfl, rfl, hz.1, hz.2, fun p hp => ?_⟩
      exact q _ _ _ ((E1.trans E2).trans (Ext.new E2.gh hp)) (.tup (.inl (.inl upd_same)) (.cons (.str _) (.cons (.str _) (.cons (.str _) .nil))))
    · replace e : (if (b.length == 0) = false ∧ a.length ≤ sizeLine then some (PyData.tuple [.str (Txt.partition a b).1, .str (Txt.partition a b).2.1, .str (Txt.partition a b).2.2]) else none) = some d := e
      rw [if_neg hz] at e; cases e
def splitLs (x y : D) : Option (List D) := match x, y with
  | .str a, .str b => if (b.length == 0) = false ∧ a.length + 2 ≤ sizeLine then some ((Txt.split a b).map .str) else none
  | _, _ => none
theorem dl_split (ho : DV K env to ra) (he : DV K env te rb) : DL K env (tM1 (fun x xs H Q => ∃ a b, x = .str a ∧ xs = [.str b] ∧ (b.length == 0) = false ∧ a.length + 2 ≤ sizeLine ∧ rNewStrs (Txt.split a b) H Q) to te) (op2 splitLs ra rb) := fun σ G H Q d s g e q => by
  obtain ⟨x, ex, e⟩ := bind_some e
  obtain ⟨y, ey, e⟩ := bind_some e
  refine ho σ G H _ x s g ex fun v G1 H1 E1 h1 => ?_
  match x, y, h1, e with
  | .str a, .str b, .str _, e =>
    replace e : (if (b.length == 0) = false ∧ a.length + 2 ≤ sizeLine then some ((Txt.split a b).map PyData.str) else none) = some d := e
    by_cases hz : (b.length == 0) = false ∧ a.length + 2 ≤ sizeLine
    · rw [if_pos hz] at e; cases e
      refine ⟨⟨a, rfl⟩, he σ G1 H1 _ _ (s.mono E1.gg) E1.gh ey fun w G2 H2 E2 h2 => ?_⟩
      cases h2
      refine ⟨a, b, rfl, rfl, hz.1, hz.2, fun p hp => ?_⟩
      exact q p _ G2 _ ((E1.trans E2).trans (Ext.own E2.gh hp)) ((E1.trans E2).hh.free hp) (E2.gh.free hp) upd_same (dpa_strs _)
    · rw [if_neg hz] at e; cases e
/-- s.index(t), found -/
def idxD (x y : D) : Option D := match x, y with
  | .str a, .str b => (Txt.index0 a b).map fun k => .int (k : Nat)
  | _, _ => none
theorem dv_idxS (ho : DV K env to ra) (he : DV K env te rb) : DV K env (tBMS K "str" (rIndexX fun _ _ _ _ => False) to (tCons te tNil)) (op2 idxD ra rb) := fun σ G H Q d s g e q => by
  obtain ⟨x, ex, e⟩ := bind_some e
  obtain ⟨y, ey, e⟩ := bind_some e
  refine ho σ G H _ x s g ex fun v G1 H1 E1 h1 => ?_
  match x, y, h1, e with
  | .str a, .str b, .str _, e =>
    obtain ⟨k, e1, e2⟩ := map_some (show (Txt.index0 a b).map (fun k => PyData.int (k : Nat)) = some d from e)
    subst e2
    refine ⟨rfl, he σ G1 H1 _ _ (s.mono E1.gg) E1.gh ey fun w G2 H2 E2 h2 => ?_⟩
    cases h2
    refine ⟨a, b, rfl, rfl, fun k' hk => ?_, fun hn => ?_⟩
    · rw [e1] at hk; cases hk; exact q _ G2 H2 (E1.trans E2) (.int _)
    · rw [e1] at hn; cases hn
theorem pe_idxS {X : Cx} {o e : Expr} {apos cpos : Pos} (ho : PE X o to) (he : PE X e te) (hc : X.calm = true := by rfl)
    (hbase : attributeBase o "index" X.env (eval o X.env) = eval o X.env := by rfl)
    (hfew : ((backTo cpos (starEach (e :: []) X.env)).all (fun x => !x.1) && (backToKw cpos (keywordEach [] X.env)).all (fun x => x.1.isSome)
      && decide ((e :: []).length + ([] : List Keyword).length + (if ([] : List Keyword).isEmpty then 0 else 1) < 30)) = true := by rfl)
    (hline : (apos.endLine == cpos.line) = true := by rfl) (hs : starEach (e :: []) X.env = (false, eval e X.env) :: starEach [] X.env := by rfl) (hplain : (backTo cpos (starEach [] X.env)).any (·.1) = false := by rfl) :
    PE X (.Call (.Attribute o "index" apos) [e] [] cpos) (tBMS X.K "str" (rIndexX fun _ _ _ _ => False) to (tCons te tNil)) :=
  pe_bmS PySem.F.plainAttrs_str PySem.F.slot_str_index PySem.F.type_str_index (mt_indexX hc (fun u s' ⟨_, _, _, _, _, _, _, _, _, _, _, _, _, _, _, _, w⟩ => w.elim)) ho (pa_cons he pa_nil hs) hbase hfew hline hs hplain
theorem dl_lc2 {wi : TI} {tt : TT} {vs : List Nat} {i j : Nat} {rI : Option (List D)} {c : D → D → Option Bool} {f : D → D → Option D}
    (hi : DI K env wi rI) (hc : ∀ x y, DT K (((wipeE env vs).set i (.sh x)).set j (.sh y)) tt (c x y)) (hf : ∀ x y, DV K (((wipeE env vs).set i (.sh x)).set j (.sh y)) te (f x y)) (hts : i ∈ vs ∧ j ∈ vs := by decide) :
    DL K env (tLc wi (gTup K 2 (gCons (gName i) (gCons (gName j) gNil))) tt te vs) (rI.bind (lcZ (fun x => twoD x c none) (fun x => twoD x f none))) := by
  have key : ∀ {α : Type} (x : D) (env' : En) (k : D → D → α) (no : α), bTup 2 (bCons (fun env x => some (env.set i (.sh x))) (bCons (fun env x => some (env.set j (.sh x))) bNil)) (wipeE env vs) x = some env' → ∃ a b, x = .tuple [a, b] ∧ env' = ((wipeE env vs).set i (.sh a)).set j (.sh b) ∧ twoD x k no = k a b := fun x env' k no h => by
    match x, h with
    | .tuple [a, b], h => cases h; exact ⟨a, b, rfl, rfl, rfl⟩
    | .tuple [], h => cases h
    | .tuple [a], h => cases h
    | .tuple (a :: b :: c :: r), h =>
      unfold bTup at h
      simp at h
  refine dl_lc hi (bg_tup (bgs_cons (bg_name i) (bgs_cons (bg_name j) bgs_nil))) (by intro k hk; simp at hk; rcases hk with rfl | rfl; exact hts.1; exact hts.2) (fun x env' e => ?_) (fun x env' e => ?_) fun x y h => ?_
  · obtain ⟨a, b, rfl, rfl, h3⟩ := key x env' c none e
    rw [h3]; exact hc a b
  · obtain ⟨a, b, rfl, rfl, h3⟩ := key x env' f none e
    rw [h3]; exact hf a b
  · unfold twoD at h
    split at h
    · exact ⟨_, rfl⟩
    · cases h
end
section
variable {X : Cx}
def ipAddX : TIp := fun x y H Q => ipI (fun i j => i + j) x y H Q
theorem ip_addX : PIp X .Add (ipI fun i j => i + j) := ip_add
def addID : D → D → Option D := intD0 fun i j => .int (i + j)
theorem id_add {K : PySem.W.Frag} : IpD K (ipI fun i j => i + j) addID := od_rI0 (g := fun i j => .int (i + j)) fun _ _ _ => .int _
theorem id_sub {K : PySem.W.Frag} : IpD K (ipI fun i j => i - j) subD := od_rI0 (g := fun i j => .int (i - j)) fun _ _ _ => .int _
end
/-! the rules with K said (a comprehension's block is another context over the same K) -/
section
variable {X : Cx} (K : PySem.W.Frag)
theorem kEq (h : X.K = K := by rfl) (hu : X.A.units + 64 < cLine) : OpR X (compareOp .Eq) (rEqD K) := h ▸ op_eqD hu
theorem kNe (h : X.K = K := by rfl) (hu : X.A.units + 64 < cLine) : OpR X (compareOp .NotEq) (rNeD K) := h ▸ op_neD hu
theorem kIn (h : X.K = K := by rfl) : OpR X (compareOp .In) (rInX K false) := h ▸ op_inX
theorem kNotIn (h : X.K = K := by rfl) : OpR X (compareOp .NotIn) (rInX K true) := h ▸ op_notInX
theorem kIx (h : X.K = K := by rfl) : IxR X (rIx K) := h ▸ ix_seq
theorem kSl (h : X.K = K := by rfl) : SlR X (rSlX K) := h ▸ sl_X
theorem kSlL (h : X.K = K := by rfl) : SlR X (rSlL K) := h ▸ sl_list
theorem kLen (h : X.K = K := by rfl) : CallR X (.builtin "len") (fun xs H Q => ∃ x n, xs = [x] ∧ LenV K x H n ∧ Q (.int n) H) := h ▸ call_len
theorem kList (h : X.K = K := by rfl) : CallR X (.type "list") (fun xs H Q => ∃ p ys, xs = [.ref p] ∧ (SqL K H p ys ∨ SqT K H p ys) ∧ ∀ l, H l = none → Q (.ref l) (upd H l (.lst ys))) := h ▸ call_list_of
theorem kSum (h : X.K = K := by rfl) (hc : X.calm = true := by rfl) : CallR X (.builtin "sum") (rSum K) := h ▸ cr_sum hc
theorem kAll (h : X.K = K := by rfl) (hc : X.calm = true := by rfl) : CallR X (.builtin "all") (rAll K) := h ▸ cr_all hc
theorem kAny (h : X.K = K := by rfl) (hc : X.calm = true := by rfl) : CallR X (.builtin "any") (rAny K) := h ▸ cr_any hc
theorem kIsi (h : X.K = K := by rfl) : CallR X (.builtin "isinstance") (rIsi K) := h ▸ call_isi
theorem kiList {tg l : Expr} {tl : TE} (hl : PE X l tl) (h : X.K = K := by rfl) : PI X tg l (iList K tl) := h ▸ pi_list hl
theorem kiTup {tg l : Expr} {tl : TE} (hl : PE X l tl) (h : X.K = K := by rfl) : PI X tg l (iTup K tl) := h ▸ pi_tup hl
variable {k : Nat} {x : Str} {ps : List Str} {e : Expr} {es : List Expr} {t : TA} {p pos : Pos}
theorem kDf {m : List D → Option D} {P : Program} {w : World} {mg : Str → Option Value} {base : Heap} (d : Df P w K mg base k x ps m) (hr : Room k X.A) (hg : Gl X x) (ha : PA X (e :: es) t)
    (h1 : X.prog = P := by rfl) (h2 : X.w = w := by rfl) (h3 : X.K = K := by rfl) (h4 : X.mg = mg := by rfl) (h5 : X.base = base := by rfl) (hdb : (x == ("__debug__" : Str)) = false := by decide)
    (he : starEach (e :: es) X.env = (false, eval e X.env) :: starEach es X.env := by rfl) (hpl : (backTo pos (starEach es X.env)).any (·.1) = false := by rfl) :
    PE X (.Call (.Name x p) (e :: es) [] pos) (tCall (spD K m) [] E0 t) := by
  subst h1; subst h2; subst h3; subst h4; subst h5
  exact pe_df d hr hg ha hdb he hpl
theorem kDfL {m : List D → Option D} {P : Program} {w : World} {mg : Str → Option Value} {base : Heap} (d : DfL P w K mg base k x ps m) (hr : Room k X.A) (hg : Gl X x) (ha : PA X (e :: es) t)
    (h1 : X.prog = P := by rfl) (h2 : X.w = w := by rfl) (h3 : X.K = K := by rfl) (h4 : X.mg = mg := by rfl) (h5 : X.base = base := by rfl) (hdb : (x == ("__debug__" : Str)) = false := by decide)
    (he : starEach (e :: es) X.env = (false, eval e X.env) :: starEach es X.env := by rfl) (hpl : (backTo pos (starEach es X.env)).any (·.1) = false := by rfl) :
    PE X (.Call (.Name x p) (e :: es) [] pos) (tCall (spL K m) [] E0 t) := by
  subst h1; subst h2; subst h3; subst h4; subst h5
  exact pe_dfL d hr hg ha hdb he hpl
theorem kDf0 {m : List D → Option D} {P : Program} {w : World} {mg : Str → Option Value} {base : Heap} (d : Df P w K mg base k x ps m) (hr : Room k X.A) (hg : Gl X x)
    (h1 : X.prog = P := by rfl) (h2 : X.w = w := by rfl) (h3 : X.K = K := by rfl) (h4 : X.mg = mg := by rfl) (h5 : X.base = base := by rfl) (hdb : (x == ("__debug__" : Str)) = false := by decide) :
    PE X (.Call (.Name x p) [] [] pos) (tCall (spD K m) [] E0 tNil) := by
  subst h1; subst h2; subst h3; subst h4; subst h5
  exact pe_df0 d hr hg hdb
theorem kDfS {m : List Int → List D → Option D} {P : Program} {w : World} {mg : Str → Option Value} {base : Heap} (d : DfS P w K mg base k x ps m) (hr : Room k X.A) (hg : Gl X x) (ha : PA X (e :: es) t)
    (h1 : X.prog = P := by rfl) (h2 : X.w = w := by rfl) (h3 : X.K = K := by rfl) (h4 : X.mg = mg := by rfl) (h5 : X.base = base := by rfl) (hdb : (x == ("__debug__" : Str)) = false := by decide)
    (he : starEach (e :: es) X.env = (false, eval e X.env) :: starEach es X.env := by rfl) (hpl : (backTo pos (starEach es X.env)).any (·.1) = false := by rfl) :
    PE X (.Call (.Name x p) (e :: es) [] pos) (tCall (spS K m) [] E0 t) := by
  subst h1; subst h2; subst h3; subst h4; subst h5
  exact pe_dfS d hr hg ha hdb he hpl
theorem kJoin {o : Expr} {to te : TE} {apos : Pos} (ho : PE X o to) (he : PE X e te) (h : X.K = K := by rfl) (hs : starEach [e] X.env = [(false, eval e X.env)] := by rfl) (hbase : attributeBase o "join" X.env (eval o X.env) = eval o X.env := by rfl) (hline : (apos.endLine == pos.line) = true := by rfl) :
    PE X (.Call (.Attribute o "join" apos) [e] [] pos) (tM1 (fun x xs H Q => ∃ a p, ∃ ys : List Str, x = .str a ∧ xs = [.ref p] ∧ (SqL K H p (ys.map V.str) ∨ SqT K H p (ys.map V.str)) ∧
      (ys.map (·.length)).sum + ys.length * a.length ≤ 16777216 ∧ Q (.str (Txt.join a ys)) H) to te) := h ▸ pe_join ho he hs hbase hline
end
theorem df_zero {P : Program} {w : World} {K : PySem.W.Frag} {mg : Str → Option Value} {base : Heap} {x qual : Str} {st : Stmt} {f : Addr} {fd : FuncData} {ps : List Str} {k : Nat} {m : List D → Option D} (F : Fun K x qual st f fd) (hm : mg x = some (.ref f)) (hb : Binds K fd ps []) (h0 : ∀ ds, m ds = none) : Df P w K mg base k x ps m := by
  refine ⟨f, fd, hm, F.kp, hb, ⟨fun vs H Q E h => ?_, fun A outer s H args us vs Q E hr he hb hv hs => ?_⟩⟩
  · obtain ⟨_, ds, _, _, _, e, _⟩ := h; rw [h0 ds] at e; cases e
  · obtain ⟨_, ds, _, _, _, e, _⟩ := hs; rw [h0 ds] at e; cases e
/-! what is walked: a list, a tuple, a text -/
def iAny (K : PySem.W.Frag) (te : TE) : TI := fun σ H R => iList K te σ H R ∨ iTup K te σ H R ∨ iStr te σ H R
theorem kiAny {X : Cx} (K : PySem.W.Frag) {tg l : Expr} {tl : TE} (hl : PE X l tl) (h : X.K = K := by rfl) : PI X tg l (iAny K tl) := by
  subst h
  refine ⟨fun pins s σ H R I hw => ?_⟩
  rcases hw with hw | hw | hw
  · exact (pi_list hl).run pins s σ H R I hw
  · exact (pi_tup hl).run pins s σ H R I hw
  · exact (pi_str hl).run pins s σ H R I hw
def iterD : D → Option (List D)
  | .list ds => some ds
  | .tuple ds => some ds
  | .str z => some (strD z)
  | _ => none
theorem di_any {K : PySem.W.Frag} {env : En} {te : TE} {ra : Option D} (h : DV K env te ra) : DI K env (iAny K te) (ra.bind iterD) := fun σ G H R ds s g e q => by
  obtain ⟨x, ex, e1⟩ := bind_some e
  match x, ex, e1 with
  | .list es, ex, e1 =>
    exact .inl (di_list h σ G H R ds s g (by rw [ex]; exact e1) q)
  | .tuple es, ex, e1 =>
    exact .inr (.inl (di_tup h σ G H R ds s g (by rw [ex]; exact e1) q))
  | .str z, ex, e1 =>
    exact .inr (.inr (di_str h σ G H R ds s g (by rw [ex]; exact e1) q))
/-! a product: of ints, of a text, of a list -/
def rMulS : R2 := fun x y H Q => ∃ (z : Str) (n : Int), x = .str z ∧ y = .int n ∧ (MulOk z n) ∧ Q (.str (Txt.mul z n)) H
theorem op_mulS {X : Cx} : OpR X (binaryOp .Mult) rMulS := by
  intro pins s σ H x y v u Q I rx ry h
  obtain ⟨z, n, rfl, rfl, hm, q⟩ := h
  obtain ⟨t, rfl⟩ := rx
  obtain ⟨t', rfl⟩ := ry
  exact PySem.SB.mul hm fun t' k => ⟨.str _, H, I.tok k, ⟨_, rfl⟩, q⟩
def rMulX : R2 := fun x y H Q => rI CMul (fun i j => .int (i * j)) x y H Q ∨ rMulS x y H Q
theorem op_mulX' {X : Cx} : OpR X (binaryOp .Mult) rMulX := op_mul.or op_mulS
def mulOkB (z : Str) (n : Int) : Bool := decide (0 ≤ n ∧ n ≤ 1000000 ∧ z.length * n.toNat ≤ 1000000)
theorem mulOk_of {z : Str} {n : Int} (h : mulOkB z n = true) : MulOk z n := by
  have h := of_decide_eq_true h
  obtain ⟨h0, h1, h2⟩ := h
  refine ⟨?_, fun hn hx hc => ?_, fun hn hx => ?_⟩
  · rw [Bool.or_eq_false_iff]; exact ⟨decide_eq_false (by omega), decide_eq_false (by omega)⟩
  · have hd : ((2 : Int) ^ 63 - 1) / n < z.length := hc
    have hn1 : 1 ≤ n.toNat := by omega
    have hz : z.length ≤ 1000000 := Nat.le_trans (Nat.le_mul_of_pos_right _ hn1) h2
    have h3 : (1000000 : Int) ≤ ((2 : Int) ^ 63 - 1) / n := Int.le_ediv_of_mul_le (by omega) (by
      have : (1000000 : Int) * n ≤ 1000000 * 1000000 := by omega
      exact Int.le_trans this (by decide))
    omega
  · show decide (z.length * n.toNat > sizeLine) = false
    have hs : (1000000 : Nat) ≤ sizeLine := by decide
    exact decide_eq_false (by omega)
def mulX : D → D → Option D
  | .int i, .int j => mulD (.int i) (.int j)
  | .str z, .int n => if mulOkB z n = true then some (.str (Txt.mul z n)) else none
  | _, _ => none
theorem od_mulX {K : PySem.W.Frag} : OpD K rMulX mulX := fun G H Q x y d v w g hx hy e q => by
  match x, y, hx, hy, e with
  | .int i, .int j, hx, hy, e => exact .inl (od_mul G H Q _ _ d v w g hx hy e q)
  | .str z, .int n, .str _, .int _, e =>
    replace e : (if mulOkB z n = true then some (PyData.str (Txt.mul z n)) else none) = some d := e
    by_cases hz : mulOkB z n = true
    · rw [if_pos hz] at e; cases e
      exact .inr ⟨z, n, rfl, rfl, mulOk_of hz, q _ G H (Ext.refl g) (.str _)⟩
    · rw [if_neg hz] at e; cases e
/-! == of plain values without looking at their form; else of data -/
def eqP : D → D → Option Bool
  | .int i, .int j => some (decide (i = j))
  | .str a, .str b => some (decide (a = b))
  | .bool a, .bool b => some (decide (a = b))
  | .none, .none => some true
  | .none, .int _ => some false
  | .none, .str _ => some false
  | .none, .bool _ => some false
  | .int _, .none => some false
  | .str _, .none => some false
  | .bool _, .none => some false
  | .int _, .str _ => some false
  | .str _, .int _ => some false
  | .bool _, .str _ => some false
  | .str _, .bool _ => some false
  | _, _ => none
def eqX (x y : D) : Option D := match eqP x y with
  | some b => some (.bool b)
  | none => eqD x y
def neX (x y : D) : Option D := match eqP x y with
  | some b => some (.bool (!b))
  | none => neD x y
theorem eqP_of {K : PySem.W.Frag} {G : Hp} {v w : V} : ∀ {x y : D} {b : Bool}, Dp K G v x → Dp K G w y → eqP x y = some b → scal v w = true ∧ decide (v = w) = b := fun {x y b} hx hy e => by
  cases hx <;> cases hy <;> first
    | (cases e; done)
    | (cases e; refine ⟨rfl, ?_⟩; simp)
    | (cases e; exact ⟨rfl, rfl⟩)
def rEqX (K : PySem.W.Frag) : R2 := fun x y H Q => rEq x y H Q ∨ rEqD K x y H Q
def rNeX (K : PySem.W.Frag) : R2 := fun x y H Q => rNe x y H Q ∨ rNeD K x y H Q
theorem kEqX {X : Cx} (K : PySem.W.Frag) (h : X.K = K := by rfl) (hu : X.A.units + 64 < cLine) : OpR X (compareOp .Eq) (rEqX K) := by subst h; exact op_eq.or (op_eqD hu)
theorem kNeX {X : Cx} (K : PySem.W.Frag) (h : X.K = K := by rfl) (hu : X.A.units + 64 < cLine) : OpR X (compareOp .NotEq) (rNeX K) := by subst h; exact op_ne.or (op_neD hu)
theorem od_eqX {K : PySem.W.Frag} : OpD K (rEqX K) eqX := fun G H Q x y d v w g hx hy e q => by
  unfold eqX at e
  cases ep : eqP x y with
  | none => rw [ep] at e; exact .inr (od_eq G H Q x y d v w g hx hy e q)
  | some b =>
    rw [ep] at e; cases e
    obtain ⟨h1, h2⟩ := eqP_of hx hy ep
    exact .inl ⟨h1, by rw [h2]; exact q _ G H (Ext.refl g) (.bl _)⟩
theorem od_neX {K : PySem.W.Frag} : OpD K (rNeX K) neX := fun G H Q x y d v w g hx hy e q => by
  unfold neX at e
  cases ep : eqP x y with
  | none => rw [ep] at e; exact .inr (od_ne G H Q x y d v w g hx hy e q)
  | some b =>
    rw [ep] at e; cases e
    obtain ⟨h1, h2⟩ := eqP_of hx hy ep
    exact .inl ⟨h1, by rw [h2]; exact q _ G H (Ext.refl g) (.bl _)⟩
/-- a def that no level holds: nothing is promised -/
theorem df_none {P : Program} {w : World} {K : PySem.W.Frag} {mg : Str → Option Value} {base : Heap} {x : Str} {ps : List Str} {k : Nat} {m : List D → Option D} (d : Df P w K mg base k x ps m) (j : Nat) : Df P w K mg base j x ps (fun _ => none) := by
  obtain ⟨f, fd, h1, h2, h3, h4⟩ := d.ex
  refine ⟨f, fd, h1, h2, h3, ⟨fun vs H Q E h => ?_, fun A outer s H args us vs Q E hr he hb hv hs => ?_⟩⟩
  · obtain ⟨_, _, _, _, _, e, _⟩ := h; cases e
  · obtain ⟨_, _, _, _, _, e, _⟩ := hs; cases e
end Dl

set_option Elab.async false
set_option linter.all false
set_option maxRecDepth 100000
set_option maxHeartbeats 2000000
namespace Dl
open PySem PySem.Spec PyProof.Rows L2
/-! ### lemmas about the mirrors' words -/
abbrev dInts (ns : List Int) : List D := ns.map PyData.int
theorem lcD_map {f : D → Option D} {g : D → D} : ∀ {xs : List D}, (∀ x ∈ xs, f x = some (g x)) → lcD (fun _ => some true) f xs = some (xs.map g)
  | [], _ => rfl
  | x :: xs, h => by
    unfold lcD
    rw [h x (by simp), lcD_map fun y hy => h y (by simp [hy])]
    rfl
theorem lcZ_map {f : D → Option D} {g : D → D} {xs : List D} (hz : xs.length ≤ 1000000) (h : ∀ x ∈ xs, f x = some (g x)) : lcZ (fun _ => some true) f xs = some (xs.map g) := by
  unfold lcZ
  rw [if_pos (Nat.le_trans hz (by decide)), lcD_map h]
theorem lcZ_id {xs : List D} (hz : xs.length ≤ 1000000) : lcZ (fun _ => some true) (fun v => some v) xs = some xs := by
  rw [lcZ_map (g := fun x => x) hz fun _ _ => rfl, List.map_id']
/-- a for without a way out -/
theorem forO_inv {α β : Type} {body : α → D → Out α α} {I : Nat → α → Prop} : ∀ {xs : List D} {k : Nat} {a : α}, I k a →
    (∀ i a x, xs[i]? = some x → I (k + i) a → ∃ b, (body a x = .nx b ∨ body a x = .ct b) ∧ I (k + i + 1) b) → ∃ b, (forO body xs a : Out α β) = .nx b ∧ I (k + xs.length) b
  | [], k, a, h, _ => ⟨a, rfl, h⟩
  | x :: xs, k, a, h, hs => by
    obtain ⟨b, hb, ib⟩ := hs 0 a x rfl h
    obtain ⟨c, hc, ic⟩ := forO_inv (β := β) (xs := xs) (k := k + 1) (a := b) (I := I) ib fun i a y hy hi => by
      have e : k + 1 + i = k + (i + 1) := by omega
      rw [e] at hi ⊢
      exact hs (i + 1) a y (by simpa using hy) hi
    refine ⟨c, ?_, ?_⟩
    · unfold forO
      rcases hb with hb | hb <;> (rw [hb]; exact hc)
    · have e : k + (x :: xs).length = k + 1 + xs.length := by simp; omega
      rw [e]; exact ic
theorem rngD_get {lo : Int} {n i : Nat} {x : D} (h : (rngD lo n)[i]? = some x) : i < n ∧ x = .int (lo + i) := by
  unfold rngD at h
  rw [List.getElem?_map] at h
  by_cases hl : i < n
  · rw [List.getElem?_range hl] at h
    exact ⟨hl, (Option.some.inj h).symm⟩
  · rw [List.getElem?_eq_none (by rw [List.length_range]; omega)] at h; cases h
theorem rngD_len {lo : Int} {n : Nat} : (rngD lo n).length = n := by unfold rngD; simp
theorem rng1D_is {n : Nat} (h : n ≤ 1000000) : rng1D [.int (n : Int)] = some (rngD 0 n) := by
  simp only [rng1D]
  rw [if_pos (okR_by (by omega)), Int.toNat_natCast]
theorem atI_ints {ns : List Int} {i : Int} (h0 : 0 ≤ i) (h1 : i < ns.length) : atI (dInts ns) i = some (.int (ns.getD i.toNat 0)) := by
  have hl : i.toNat < ns.length := by omega
  unfold atI ixN
  rw [List.length_map, if_pos h0, if_pos h1]
  show (List.map PyData.int ns)[i.toNat]? = _
  rw [List.getElem?_map, List.getElem?_eq_getElem hl, List.getD_eq_getElem?_getD, List.getElem?_eq_getElem hl]; rfl
theorem ixN_in {n : Nat} {i : Int} (h0 : 0 ≤ i) (h1 : i < n) : ixN n i = some i.toNat := by
  unfold ixN
  rw [if_pos h0, if_pos h1]
theorem setL_ints {ns : List Int} {i v : Int} (h0 : 0 ≤ i) (h1 : i < ns.length) : setL (dInts ns) (.int i) (.int v) = some (dInts (ns.set i.toNat v)) := by
  show (ixN (dInts ns).length i).map _ = _
  rw [List.length_map, ixN_in h0 h1]
  show some ((ns.map PyData.int).set i.toNat (.int v)) = some ((ns.set i.toNat v).map PyData.int)
  rw [List.map_set]
theorem mul_ok {i j : Int} (h : smallI j = true) : mulX (.int i) (.int j) = some (.int (i * j)) := by
  show (if (smallI i || smallI j) = true then some (PyData.int (i * j)) else none) = _
  rw [h, Bool.or_true, if_pos rfl]
theorem mod_ok {i j : Int} (h : 0 < j) : modD (.int i) (.int j) = some (.int (i % j)) := by
  show (if decide (0 < j) = true then some (PyData.int (i % j)) else none) = _
  rw [if_pos (decide_eq_true h)]
theorem fdiv_ok {i j : Int} (h : 0 < j ∧ j < 1073741824) : fdivD (.int i) (.int j) = some (.int (i / j)) := by
  show (if decide (0 < j ∧ j < 1073741824) = true then some (PyData.int (i / j)) else none) = _
  rw [if_pos (decide_eq_true h)]
theorem add_ok {i j : Int} : addD (.int i) (.int j) = some (.int (i + j)) := rfl
theorem sub_ok {i j : Int} : subD (.int i) (.int j) = some (.int (i - j)) := rfl
theorem addL_ok {ds : List D} {d : D} (h : ds.length < 1000000) : addL ds d = some (ds ++ [d]) := by
  unfold addL
  rw [if_pos (Nat.lt_of_lt_of_le h (by decide))]
theorem million_le : (1000000 : Nat) ≤ sizeLine := by decide
theorem szL_ok {ds : List D} (h : ds.length ≤ 1000000) : szL ds = some ds := if_pos (Nat.le_trans h million_le)
theorem tupD_ok {ds : List D} (h : ds.length ≤ 1000000) : tupD ds = some (.tuple ds) := if_pos (Nat.le_trans h million_le)
theorem szL_nil : szL [] = some [] := szL_ok (Nat.zero_le _)
theorem szL_one {a : D} : szL [a] = some [a] := szL_ok (show 1 ≤ 1000000 by decide)
theorem tupD_two {a b : D} : tupD [a, b] = some (.tuple [a, b]) := tupD_ok (show 2 ≤ 1000000 by decide)
theorem tupD_three {a b c : D} : tupD [a, b, c] = some (.tuple [a, b, c]) := tupD_ok (show 3 ≤ 1000000 by decide)
theorem dInts_app {a b : List Int} : dInts a ++ dInts b = dInts (a ++ b) := List.map_append.symm
theorem dInts_len {a : List Int} : (dInts a).length = a.length := List.length_map _
end Dl

set_option Elab.async false
set_option linter.all false
set_option maxRecDepth 100000
set_option maxHeartbeats 2000000
namespace Dl
open PySem PySem.Spec PyProof.Rows L2
/-! ### what a mirror's piece surely gives -/
def Ok {α : Type} (r : Option α) (P : α → Prop) : Prop := ∃ a, r = some a ∧ P a
theorem ok_some {α : Type} {a : α} {P : α → Prop} (h : P a) : Ok (some a) P := ⟨a, rfl, h⟩
theorem ok_imp {α : Type} {r : Option α} {P Q : α → Prop} (h : Ok r P) (k : ∀ a, P a → Q a) : Ok r Q := by
  obtain ⟨a, e, p⟩ := h; exact ⟨a, e, k a p⟩
theorem ok_bind {α β : Type} {r : Option α} {f : α → Option β} {P : α → Prop} {Q : β → Prop} (h : Ok r P) (k : ∀ a, P a → Ok (f a) Q) : Ok (Option.bind r f) Q := by
  obtain ⟨a, e, p⟩ := h; rw [e]; exact k a p
theorem ok_op2 {α : Type} {f : D → D → Option α} {ra rb : Option D} {P Q : D → Prop} {R : α → Prop} (h : Ok ra P) (k : Ok rb Q) (g : ∀ x y, P x → Q y → Ok (f x y) R) : Ok (op2 f ra rb) R := by
  obtain ⟨a, e, p⟩ := h; obtain ⟨b, e2, q⟩ := k; rw [e, e2]; exact g a b p q
theorem ok_cons {ra : Option D} {rA : Option (List D)} {P : D → Prop} {Q : List D → Prop} {R : List D → Prop} (h : Ok ra P) (k : Ok rA Q) (g : ∀ x xs, P x → Q xs → R (x :: xs)) : Ok (consO ra rA) R := by
  obtain ⟨a, e, p⟩ := h; obtain ⟨b, e2, q⟩ := k; rw [e, e2]; exact ⟨_, rfl, g a b p q⟩
/-- a step of a body -/
theorem run_step {α β γ : Type} {r : Option α} {k : α → Out γ β} {P : α → Prop} {d : D} (h : Ok r P) (g : ∀ a, P a → Out.run (k a) = some d) : Out.run (Out.bind (toO r) k) = some d := by
  obtain ⟨a, e, p⟩ := h; rw [e]; exact g a p
theorem run_ret {α β : Type} {r : Option D} {d : D} (h : r = some d) : Out.run (toR r : Out α β) = some d := by rw [h]; rfl
/-! kinds of data -/
def IntIn (lo hi : Int) (d : D) : Prop := ∃ i, d = .int i ∧ lo ≤ i ∧ i ≤ hi
def StrLe (n : Nat) (d : D) : Prop := ∃ z : Str, d = .str z ∧ z.length ≤ n
def AllOf (P : D → Prop) (n : Nat) (ds : List D) : Prop := ds.length = n ∧ ∀ d ∈ ds, P d
theorem in_int (i : Int) {lo hi : Int} (h : lo ≤ i ∧ i ≤ hi) : IntIn lo hi (.int i) := ⟨i, rfl, h⟩
theorem str_le {z : Str} {n : Nat} (h : z.length ≤ n) : StrLe n (.str z) := ⟨z, rfl, h⟩
theorem StrLe.mono {n m : Nat} {d : D} (h : StrLe n d) (k : n ≤ m) : StrLe m d := by
  obtain ⟨z, e, l⟩ := h; exact ⟨z, e, Nat.le_trans l k⟩
theorem add_in {a b c e : Int} {x y : D} (h : IntIn a b x) (k : IntIn c e y) : Ok (addD x y) (IntIn (a + c) (b + e)) := by
  obtain ⟨i, rfl, h1, h2⟩ := h; obtain ⟨j, rfl, k1, k2⟩ := k
  exact ⟨_, rfl, i + j, rfl, by omega, by omega⟩
theorem add_str {a b : Nat} {x y : D} (h : StrLe a x) (k : StrLe b y) (hz : a + b ≤ 1000000) : Ok (addD x y) (StrLe (a + b)) := by
  obtain ⟨i, rfl, h1⟩ := h; obtain ⟨j, rfl, k1⟩ := k
  refine ⟨.str (i ++ j), if_pos (Nat.le_trans (show i.length + j.length ≤ 1000000 by omega) million_le), i ++ j, rfl, ?_⟩
  have : (i ++ j).length = i.length + j.length := by rw [TL.len_tl, TL.len_tl, TL.len_tl, TL.tl_append, List.length_append]
  omega
theorem add_lst {P : D → Prop} {a b : Nat} {xs ys : List D} (h : AllOf P a xs) (k : AllOf P b ys) (hz : a + b ≤ 1000000) : Ok (addD (.list xs) (.list ys)) (fun d => ∃ zs, d = .list zs ∧ AllOf P (a + b) zs) := by
  refine ⟨.list (xs ++ ys), if_pos (Nat.le_trans (show xs.length + ys.length ≤ 1000000 by rw [h.1, k.1]; exact hz) million_le), _, rfl, by rw [List.length_append, h.1, k.1], fun d hd => ?_⟩
  rcases List.mem_append.mp hd with z | z
  · exact h.2 d z
  · exact k.2 d z
theorem mod_in {a b c e : Int} {x y : D} (h : IntIn a b x) (k : IntIn c e y) (hc : 0 < c) : Ok (modD x y) (IntIn 0 (e - 1)) := by
  obtain ⟨i, rfl, h1, h2⟩ := h; obtain ⟨j, rfl, k1, k2⟩ := k
  refine ⟨_, mod_ok (show 0 < j by omega), i % j, rfl, Int.emod_nonneg _ (by omega), ?_⟩
  have := Int.emod_lt_of_pos i (show 0 < j by omega)
  omega
theorem fdiv_in {a b : Int} {x : D} (h : IntIn a b x) {c : Int} (hc : 0 < c ∧ c < 1073741824) (ha : 0 ≤ a) : Ok (fdivD x (.int c)) (IntIn 0 b) := by
  obtain ⟨i, rfl, h1, h2⟩ := h
  refine ⟨_, fdiv_ok hc, i / c, rfl, Int.ediv_nonneg (by omega) (by omega), ?_⟩
  have : i / c ≤ i := Int.ediv_le_self _ (by omega)
  omega
theorem int_in {a b : Int} {x : D} (h : IntIn a b x) : Ok (intTD [x]) (IntIn a b) := by
  obtain ⟨i, rfl, h1⟩ := h; exact ⟨_, rfl, i, rfl, h1⟩
theorem ix_in {P : D → Prop} {n : Nat} {ds : List D} (h : AllOf P n ds) {y : D} {e : Int} (k : IntIn 0 e y) (he : e < n) : Ok (ixD (.list ds) y) P := by
  obtain ⟨i, rfl, h1, h2⟩ := k
  have hl : i.toNat < ds.length := by rw [h.1]; omega
  refine ⟨ds[i.toNat], ?_, h.2 _ (List.getElem_mem hl)⟩
  show atI ds i = _
  unfold atI
  rw [ixN_in h1 (by rw [h.1]; omega)]
  exact List.getElem?_eq_getElem hl
theorem all_nil {P : D → Prop} : AllOf P 0 [] := ⟨rfl, fun _ h => by cases h⟩
theorem all_cons {P : D → Prop} {n : Nat} {x : D} {xs : List D} (h : P x) (k : AllOf P n xs) : AllOf P (n + 1) (x :: xs) := ⟨congrArg (· + 1) k.1, fun d hd => by
  rcases List.mem_cons.mp hd with rfl | hd
  · exact h
  · exact k.2 d hd⟩
theorem ok_nil {P : D → Prop} : Ok (some ([] : List D)) (AllOf P 0) := ok_some all_nil
theorem ok_item {P : D → Prop} {n : Nat} {ra : Option D} {rA : Option (List D)} (h : Ok ra P) (k : Ok rA (AllOf P n)) : Ok (consO ra rA) (AllOf P (n + 1)) := ok_cons h k fun _ _ a b => all_cons a b
/-- a list display -/
theorem ok_list {P : D → Prop} {n : Nat} {rA : Option (List D)} (k : Ok rA (AllOf P n)) (hn : n ≤ 1000000) : Ok (newO (Option.bind rA szL)) (fun d => ∃ xs, d = .list xs ∧ AllOf P n xs) := by
  obtain ⟨xs, e, h⟩ := k
  rw [e]
  show Ok (newO (szL xs)) _
  rw [szL_ok (by rw [h.1]; exact hn)]
  exact ⟨_, rfl, xs, rfl, h⟩
theorem ok_one {f : List D → Option D} {ra : Option D} {P Q : D → Prop} (h : Ok ra P) (k : ∀ x, P x → Ok (f [x]) Q) : Ok (Option.bind (consO ra (some [])) f) Q := by
  obtain ⟨a, e, p⟩ := h; rw [e]; exact k a p
theorem sl_le {n : Nat} {x : D} (h : StrLe n x) (hn : n ≤ 1000000) (lo hi : Option Int) : Ok (slD x lo hi) (StrLe n) := by
  obtain ⟨z, rfl, l⟩ := h
  exact ⟨_, if_pos (Nat.le_trans (show z.length ≤ 1000000 by omega) million_le), _, rfl, Nat.le_trans (cutS_length z lo hi) l⟩
theorem ok_sl {n : Nat} {ra : Option D} {rl rh : Option (Option Int)} (h : Ok ra (StrLe n)) (hn : n ≤ 1000000) (hl : Ok rl fun _ => True) (hh : Ok rh fun _ => True) : Ok (slO slD ra rl rh) (StrLe n) := by
  obtain ⟨a, e, p⟩ := h; obtain ⟨lo, e2, _⟩ := hl; obtain ⟨hi, e3, _⟩ := hh
  rw [e, e2, e3]; exact sl_le p hn lo hi
theorem ok_part {ra : Option D} {a b : Int} (h : Ok ra (IntIn a b)) : Ok (Option.bind ra partD) fun _ => True := by
  obtain ⟨x, e, i, rfl, _⟩ := h; rw [e]; exact ⟨_, rfl, trivial⟩
theorem ok_no : Ok (some (none : Option Int)) fun _ => True := ⟨_, rfl, trivial⟩
theorem len_in {n : Nat} {x : D} (h : StrLe n x) (hn : n ≤ 1000000) : Ok (lenD [x]) (IntIn 0 n) := by
  obtain ⟨z, rfl, l⟩ := h
  exact ⟨_, if_pos (Nat.le_trans (show z.length ≤ 1000000 by omega) million_le), _, rfl, by omega, by omega⟩
/-- str of a small number -/
theorem strT_le {hi : Int} {x : D} (h : IntIn 0 hi x) {k : Nat} (hk : 0 < k) (h2 : hi < (10 ^ k : Nat)) (h3 : k ≤ 9) : Ok (strTD [x]) (StrLe k) := by
  obtain ⟨i, rfl, h0, h1⟩ := h
  have hb : i.natAbs < 2 ^ 1920 := by
    have e : (10 : Nat) ^ k ≤ 10 ^ 9 := Nat.pow_le_pow_right (by decide) h3
    have e2 : (10 : Nat) ^ 9 ≤ 2 ^ 1920 := Nat.le_trans (show (10 : Nat) ^ 9 ≤ 2 ^ 30 by decide) (Nat.pow_le_pow_right (by decide) (by decide))
    omega
  refine ⟨.str (toString i), if_pos ?_, _, rfl, ?_⟩
  · by_cases hz : i.natAbs = 0
    · rw [hz]; decide
    · exact (Nat.log2_lt hz).mpr hb
  · have e : i = ((i.toNat : Nat) : Int) := by omega
    rw [e, TL.len_tl, TL.tl_num]
    exact TL.numL_len hk (by omega)
end Dl

set_option Elab.async false
set_option linter.all false
set_option maxRecDepth 100000
set_option maxHeartbeats 2000000
namespace Dl
open PySem PySem.Spec PyProof.Rows L2
/-! ### repr of data, where nothing is being shown around -/
def rRepr (K : PySem.W.Frag) : List V → Hp → VK → Prop := fun xs H Q => ∃ (a : Addr) (d : D), xs = [.ref a] ∧ L2.Dp K H (.ref a) d ∧ d.showable = true ∧ d.hasDict = false ∧ d.shown.length ≤ sizeLine ∧ d.depth ≤ 60 ∧ Q (.str d.shown) H
theorem call_reprD {X : Cx} (hg : X.A.guards = some []) (hu : X.A.units + 64 < cLine) : CallR X (.builtin "repr") (rRepr X.K) := by
  intro pins s σ H xs us Q I r h
  obtain ⟨a, d, rfl, hd, hs, hno, hz, hdep, q⟩ := h
  obtain ⟨u, rfl, ru⟩ := vals1 r
  cases ru
  obtain ⟨as, rd⟩ := L2.Dp.reads I d _ _ hd rfl
  exact repr_of_reads' rd hs (fun e => by rw [hno] at e; cases e) hg (by omega) (fun _ _ e => e) (fun h' u tk hk => ⟨.str d.shown, H, I.kept hk, ⟨_, rfl⟩, q⟩) hz
theorem kRepr {X : Cx} (K : PySem.W.Frag) (hg : X.A.guards = some []) (hu : X.A.units + 64 < cLine) (h : X.K = K := by rfl) : CallR X (.builtin "repr") (rRepr K) := h ▸ call_reprD hg hu
def showB (d : D) : Bool := d.showable && !d.hasDict && decide (d.shown.length ≤ sizeLine) && decide (d.depth ≤ 60) && !(atom d)
def reprD : List D → Option D
  | [d] => if showB d = true then some (.str d.shown) else none
  | _ => none
theorem cd_repr {K : PySem.W.Frag} : ClD K (rRepr K) reprD := fun G H Q xs d vs g hx e q => by
  match xs, hx, e with
  | [x], .cons hv .nil, e =>
    replace e : (if showB x = true then some (PyData.str x.shown) else none) = some d := e
    by_cases hz : showB x = true
    · rw [if_pos hz] at e; cases e
      unfold showB at hz
      simp only [Bool.and_eq_true, Bool.not_eq_true', decide_eq_true_eq] at hz
      obtain ⟨⟨⟨⟨h1, h2⟩, h3⟩, h4⟩, h5⟩ := hz
      have key : ∀ a, Dp K G (.ref a) x → rRepr K [.ref a] H Q := fun a ha => ⟨a, x, rfl, dp_lay x _ (dp_mono g x _ ha), h1, h2, h3, h4, q _ G H (Ext.refl g) (.str _)⟩
      cases hv with
      | non => cases h5
      | bl b => cases h5
      | int i => cases h5
      | str z => cases h5
      | lst p1 p2 => exact key _ (.lst p1 p2)
      | tup p1 p2 => exact key _ (.tup p1 p2)
    · rw [if_neg hz] at e; cases e
/-! ### the law's def, run where nothing is being shown -/
section
variable {P : Program} {w : World} {K : PySem.W.Frag} {mg : Str → Option Value} {base : Heap} {x qual : Str} {st : Stmt} {f : Addr} {fd : FuncData} {N ps : List Str} {k : Nat}
/-- what is wanted of the law's def: as FnOk says, but only where no guard is up -/
def RunG (P : Program) (w : World) (K : PySem.W.Frag) (mg : Str → Option Value) (base : Heap) (k : Nat) (f : Addr) (fd : FuncData) (ps : List Str) (sp : Sp) : Prop :=
  ∀ (A : Around) (outer : List Env) (s : Shared) (H : Hp) (args : Args) (us : List Value) (vs : List V) (Q : VK) (E : XK), A.guards = some [] → Room k A → Env0 P w K mg base A outer s H → BindsTo s fd args (ps.zip us) → Vals vs us → sp vs H Q E →
    codeAny (model P w) A (.call (.ref f) args) (CR CX0 outer P w H s Q E) s
theorem runG_mk {sp : Sp} (F : Fun K x qual st f fd) (S : FnScope N ps (defScope st)) (hl : ∀ vs H Q E, sp vs H Q E → vs.length = ps.length)
    (body : ∀ (cdv : Value) (A : Around) (outer : List Env) (s : Shared) (H : Hp) (vs : List V) (Q : VK) (E : XK), A.guards = some [] → Room k (A.deeper (envOfC qual (defScope st) s.heap.objs.size f cdv)) → sp vs H Q E →
      ∃ t, PSs (cxOf CX0 P w K mg base N qual (defScope st) f cdv A outer s H E).nox (defBody st) t ∧ t { nx := fun _ H' => Q .non H', rt := Q } (L2.start N vs) H) : RunG P w K mg base (k + 1) f fd ps sp := by
  intro A outer s H args us vs Q E hg room env bnd rel prom
  obtain ⟨oc, od, kV, doc, pm, an, cdv, ct, osl, rfl, look, code⟩ := F.ex
  have inK : K.In s.heap := env.mod.kin.keeps fun b o e => (env.bs b o e).1
  have free := env.mod.nolimit.keeps fun b o e => (env.bs b o e).1
  have kinds : ∀ y ∈ ps.zip us, (defScope st).names.lookup y.1 = some .local ∨ ((defScope st).names.lookup y.1 = some .cell ∧ ((cellsFrom (s.heap.objs.size + 1) (defScope st).names []).lookup y.1).isSome = true) := by
    rintro ⟨n, v⟩ hy
    exact (S.par n (List.of_mem_zip hy).1).imp (fun q => q) fun q => ⟨q, PySem.W.cellsFrom_some _ _ _ (.inl q)⟩
  refine codeAny_call_function (args := args) room.depth (inK _ _ look) rfl S.co S.gen rfl (PySem.W.codeRec_of inK code) (bnd _ _ _ _ ?_)
  refine wpAny_newFunctionEnv_cells S.kind kinds fun env1 he s1 laid => ?_
  subst he
  refine ⟨free.keeps laid.toInCall.keep, codeAny_func ?_⟩
  obtain ⟨t, walked, wish⟩ := body cdv A outer s H vs Q E hg (room.deeper _) prom
  have start : Inv (cxOf CX0 P w K mg base N qual (defScope st) f cdv A outer s H E) [] (L2.start N vs) H s1 := inv_start S room.hd env (hl _ _ _ _ prom) rel laid
  have ends : ∀ {σ' : L2.St} {H' : Hp} {s' : Shared} {v : V} {u : Value}, Inv (cxOf CX0 P w K mg base N qual (defScope st) f cdv A outer s H E) [] σ' H' s' → RelV v u → Q v H' → CE outer P w H s Q u s' := fun J rv q => ⟨_, _, J.os, J.bare, J.base, J.hok, rv, q⟩
  apply wpAny_mono (walked.nox.run [] s1 (L2.start N vs) H _ start wish)
  · intro flow s' got
    cases flow with
    | ret u => obtain ⟨v, σ', H', J, rv, q⟩ := got; exact ends J rv q
    | next => obtain ⟨σ', H', J, q⟩ := got; exact ends (v := V.non) (u := Value.none) J rfl q
    | brk => obtain ⟨_, _, _, q⟩ := got; exact q.elim
    | cont => obtain ⟨_, _, _, q⟩ := got; exact q.elim
  · exact fun e s' q => q
end
end Dl

set_option Elab.async false
set_option linter.all false
set_option maxRecDepth 100000
set_option maxHeartbeats 2000000
namespace Dl
open PySem PySem.Spec PyProof.Rows L2
/-! ### the end of a law whose def may show data (repr): as L2.walk_of, from RunG -/
section
variable {P : Program} {w : World} {K : PySem.W.Frag} {mg mb : Str → Option Value} {k : Nat} {fa a : Addr} {fd : FuncData} {x : Str} {sp : Sp} {s1 : Shared} {vs : List Value} {ns : List Int}
abbrev LawDone (s1 : Shared) : Result → Shared → Prop := fun r s' => r = .ok (.ret (.bool true)) ∧ OldK s1.heap s'.heap ∧ s'.os = s1.os ∧ AllBare s'.gens
/-- from an abstract heap H in which at most the script is tracked, locked -/
theorem law_from (inK : K.In s1.heap) (glob : s1.heap.Ns mainGlobals mg) (blt : s1.heap.Ns builtinsNs mb) (boots : ∀ y : Str, y ≠ "__name__" → mb y = bootBuiltins y) (lim : s1.heap.NoLimit) (gens : s1.gens = #[])
    (room : Room k callerA) (run : ∀ base : Heap, K.In base → base.Ns mainGlobals mg → RunG P w K mg base k fa fd [x] sp) (bnd : ∀ (s : Shared) (u : Value), BindsTo s fd ⟨[u], []⟩ [(x, u)])
    (H : Hp) (only : Only H) (prom : sp [.ref a] H (fun v _ => v = .bl true) fun _ _ _ => False) (ok : HOk P w H s1.heap) (lst : ∀ b o es ep, s1.heap.get? b = some o → o.data = .dict es ep → H b = none) (kno : ∀ b o, K.lookup b = some o → H b = none) :
    codeAny (model P w) callerA (.call (.ref fa) ⟨[.ref a], []⟩) (LawDone s1) s1 := by
  -- the base: what is not tracked
  have hid : ∀ {b : Addr} {o : Obj}, s1.heap.get? b = some o → H b = none → (hidT s1.heap H).get? b = some o := fun e n => hidT_get e n
  have nsH : ∀ {b : Addr} {m : Str → Option Value}, s1.heap.Ns b m → (hidT s1.heap H).Ns b m := by
    rintro b m ⟨o, es, ep, e, d, r⟩
    exact ⟨o, es, ep, hid e (lst b o es ep e d), d, r⟩
  have inH : K.In (hidT s1.heap H) := fun b o e => hid (inK b o e) (kno b o e)
  obtain ⟨ml, l1, l2⟩ := lim
  have modH : Mod K mg (hidT s1.heap H) := ⟨inH, nsH glob, ⟨mb, nsH blt, boots⟩, ml, nsH l1, l2⟩
  have nofr : ∀ b ∈ frs ([] : List Env), H b = none := by intro b hb; cases hb
  have env : Env0 P w K mg (hidT s1.heap H) callerA [] s1 H := ⟨rfl, modH, fun b o e => of_hidT e, Nat.le_of_eq (hidT_size _ _), trivial, nofr, ok, .of_eq gens⟩
  have called := run _ inH (nsH glob) callerA [] s1 H ⟨[.ref a], []⟩ [.ref a] [.ref a] (fun v _ => v = .bl true) (fun _ _ _ => False) rfl room env (bnd s1 (.ref a)) (.cons rfl .nil) prom
  refine codeAny_mono called ?_
  intro r s2 got
  rcases r with e | fl
  · exact got.elim
  rcases fl with _ | _ | _ | u
  · exact got.elim
  · exact got.elim
  · exact got.elim
  · obtain ⟨v, H2, os2, bare2, un, ok2, rv, hv⟩ := got
    subst hv
    have hu : u = Value.bool true := rv
    subst hu
    refine ⟨rfl, OldK.of_keep ?_, os2, bare2⟩
    intro b o e
    rcases only b with none_ | ⟨ob, xs, lock⟩
    · exact un.keep b o e none_ (fun z => by cases z) (by simp)
    · have lock2 := un.frzs b ob _ lock
      obtain ⟨old, _⟩ := ok b _ lock
      obtain ⟨new, _⟩ := ok2 b _ lock2
      rw [e] at old
      cases old
      exact new
theorem law_callG (inK : K.In s1.heap) (glob : s1.heap.Ns mainGlobals mg) (blt : s1.heap.Ns builtinsNs mb) (boots : ∀ y : Str, y ≠ "__name__" → mb y = bootBuiltins y) (lim : s1.heap.NoLimit) (gens : s1.gens = #[])
    (here : s1.heap.get? a = some { cls := .type "list", data := .seq vs.toArray }) (are : IntsAre vs ns) (len : ns.length ≤ sizeLine) (room : Room k callerA)
    (run : ∀ base : Heap, K.In base → base.Ns mainGlobals mg → RunG P w K mg base k fa fd [x] sp) (bnd : ∀ (s : Shared) (u : Value), BindsTo s fd ⟨[u], []⟩ [(x, u)])
    (prom : ∀ H : Hp, Only H → SqL K H a (ns.map V.int) → sp [.ref a] H (fun v _ => v = .bl true) fun _ _ _ => False) :
    codeAny (model P w) callerA (.call (.ref fa) ⟨[.ref a], []⟩) (LawDone s1) s1 := by
  have vals := vals_ints are
  have same := are.length
  cases look : K.lookup a with
  | some o =>
    have there := inK a o look
    rw [here] at there
    cases there
    have only : Only (fun _ => none) := fun _ => .inl rfl
    refine law_from inK glob blt boots lim gens room run bnd (fun _ => none) only (prom _ only (.inr ⟨_, vs.toArray, _, look, rfl, rfl, rfl, ?_, ?_⟩)) ?_ (fun _ _ _ _ _ _ => rfl) fun _ _ _ => rfl
    · rw [List.size_toArray, same]; exact len
    · rw [List.toList_toArray]; exact vals
    · intro b u z; cases z
  | none =>
    let o1 : Obj := { cls := .type "list", data := .seq vs.toArray }
    let H1 : Hp := upd (fun _ => none) a (.frz o1 (.lst (ns.map V.int)))
    have at1 : H1 a = some (.frz o1 (.lst (ns.map V.int))) := upd_same
    have off : ∀ {b : Addr}, b ≠ a → H1 b = none := fun h => upd_ne h
    have only : Only H1 := by
      intro b
      by_cases e : b = a
      · subst e; exact .inr ⟨_, _, at1⟩
      · exact .inl (off e)
    refine law_from inK glob blt boots lim gens room run bnd H1 only (prom H1 only (.inl (.inr ⟨o1, at1⟩))) ?_ ?_ ?_
    · intro b u z
      by_cases e : b = a
      · subst e
        rw [at1] at z
        cases z
        exact ⟨here, by rw [List.length_map]; exact len, vs, _, vals, here⟩
      · rw [off e] at z; cases z
    · intro b o es ep e d
      by_cases h : b = a
      · subst h
        rw [here] at e
        cases e
        exact absurd (show Data.seq vs.toArray _ = Data.dict es ep from d) (by intro z; cases z)
      · exact off h
    · intro b o e
      by_cases h : b = a
      · subst h; rw [look] at e; cases e
      · exact off h
end
theorem walk_ofG {l : PySem.W.OpenLaw} {n k : Nat} {q : Program} {loose : List Str} {XP : (Str → Option Value) → Heap → Prop} {YP : World → Heap → Prop} {d : DefRec} {K : Params → PySem.W.Frag} {sp : World → Sp} {x : Str}
    (most : l.most = some n) (small : n ≤ sizeLine) (nodef : d.params.defaults = []) (room : Room k callerA)
    (inK : ∀ (w : World) (h : Heap), YP w h → (K w.params).In h)
    (F : ∀ (w : World) (mg : Str → Option Value) (fa : Addr) (h : Heap), (K w.params).In h → h.Ns mainGlobals mg → mg d.name = some (.ref fa) →
      ∃ fd : FuncData, (∀ (s : Shared) (u : Value), BindsTo s fd ⟨[u], []⟩ [(x, u)]) ∧ ∀ base : Heap, (K w.params).In base → base.Ns mainGlobals mg → RunG l.prog w (K w.params) mg base k fa fd [x] (sp w))
    (prom : ∀ (w : World) (H : Hp) (a : Addr) (ns : List Int), ns.length ≤ n → Only H → SqL (K w.params) H a (ns.map V.int) → sp w [.ref a] H (fun v _ => v = .bl true) fun _ _ _ => False) :
    PySem.W.WalkO q loose XP YP l.row.toRowW d [] (fun f vs => PySem.call f vs) := by
  apply Att.attach_call most nodef
  intro w s0 s1 mg mb fa o pm cd doc a vs ns G Y _ _ _ named obj hints len gens
  have KX := inK w _ Y
  obtain ⟨fd, bnd, run⟩ := F w mg fa _ KX G.T.g named
  exact law_callG KX G.T.g G.T.b G.T.builtins G.T.nolimit gens obj hints (Nat.le_trans len small) room run bnd fun H only hs => prom w H a ns len only hs
end Dl

set_option Elab.async false
set_option linter.all false
set_option maxRecDepth 100000
set_option maxHeartbeats 2000000
namespace Dl
open PySem PySem.Spec PyProof.Rows L2
/-! ### f-strings of texts and ints -/
def fmtD : D → Option D
  | .str z => if z.length ≤ sizeLine then some (.str z) else none
  | .int i => if i.natAbs.log2 < 1920 then some (.str (toString i)) else none
  | _ => none
section
variable {K : PySem.W.Frag} {env : En} {t te : TE} {ts : List TE} {ra re : Option D} {r : Str → Option Str}
theorem dv_fmt (h : DV K env te ra) : DV K env (tFmt te) (ra.bind fmtD) := fun σ G H Q d s g e q => by
  obtain ⟨x, ex, e⟩ := bind_some e
  refine h σ G H _ x s g ex fun v G1 H1 E1 h1 => ?_
  match x, h1, e with
  | .str z, .str _, e =>
    replace e : (if z.length ≤ sizeLine then some (PyData.str z) else none) = some d := e
    by_cases hz : z.length ≤ sizeLine
    · rw [if_pos hz] at e; cases e; exact .inl ⟨z, rfl, hz, q _ G1 H1 E1 (.str _)⟩
    · rw [if_neg hz] at e; cases e
  | .int i, .int _, e =>
    replace e : (if i.natAbs.log2 < 1920 then some (PyData.str (toString i)) else none) = some d := e
    by_cases hz : i.natAbs.log2 < 1920
    · rw [if_pos hz] at e; cases e; exact .inr ⟨i, rfl, hz, q _ G1 H1 E1 (.str _)⟩
    · rw [if_neg hz] at e; cases e
/-- the parts one behind the other -/
def DJ (K : PySem.W.Frag) (env : En) (ts : List TE) (r : Str → Option Str) : Prop := ∀ σ (G H : Hp) (Q : Str → Hp → Prop) acc z, SE K env σ G → Same G H → r acc = some z → (∀ G' H', Ext G H G' H' → Q z H') → tJs ts acc σ H Q
theorem dj_nil : DJ K env [] some := fun σ G H Q acc z s g e q => by
  cases e; exact q G H (Ext.refl g)
def catJ (acc : Str) (d : D) : Option Str := match d with
  | .str y => if (acc ++ y).length ≤ sizeLine then some (acc ++ y) else none
  | _ => none
def consJ (ra : Option D) (r : Str → Option Str) (acc : Str) : Option Str := (ra.bind (catJ acc)).bind r
theorem dj_cons (h : DV K env t ra) (k : DJ K env ts r) : DJ K env (t :: ts) (consJ ra r) := fun σ G H Q acc z s g e q => by
  obtain ⟨u, eu, e⟩ := bind_some e
  obtain ⟨x, ex, eu⟩ := bind_some eu
  refine h σ G H _ x s g ex fun v G1 H1 E1 h1 => ?_
  match x, h1, eu with
  | .str y, .str _, eu =>
    replace eu : (if (acc ++ y).length ≤ sizeLine then some (acc ++ y) else none) = some u := eu
    by_cases hz : (acc ++ y).length ≤ sizeLine
    · rw [if_pos hz] at eu; cases eu
      exact ⟨y, rfl, hz, k σ G1 H1 Q _ z (s.mono E1.gg) E1.gh e fun G2 H2 E2 => q G2 H2 (E1.trans E2)⟩
    · rw [if_neg hz] at eu; cases eu
def fsO (r : Option Str) : Option D := r.bind fun z => some (.str z)
theorem dv_fstr (h : DJ K env ts r) : DV K env (fun σ H Q => tJs ts Str.empty σ H fun out H1 => Q (.str out) H1) (fsO (r Str.empty)) := fun σ G H Q d s g e q => by
  obtain ⟨z, ez, e⟩ := bind_some e
  cases e
  exact h σ G H _ Str.empty z s g ez fun G1 H1 E1 => q _ G1 H1 E1 (.str _)
/-! ### {'a': 'b', ..}[e] -/
def dispT (kvs : List (Str × Str)) : List (TE × TE) := kvs.map fun kv => (tC (.str kv.1), tC (.str kv.2))
def dispK (kvs : List (Str × Str)) : List (Key × V) := kvs.map fun kv => (.inr kv.1, .str kv.2)
def getS (kvs : List (Str × Str)) (d : D) : Option D := match d with
  | .str z => match valV (mergeK [] (dispK kvs)) (.inr z) with
    | some (.str u) => some (.str u)
    | _ => none
  | _ => none
theorem pairs_run {σ : L2.St} : ∀ (kvs : List (Str × Str)) (H : Hp) (Q : List (V × V) → Hp → Prop), Q ((dispK kvs).map fun kv => (kV kv.1, kv.2)) H → tPairs (dispT kvs) σ H Q
  | [], H, Q, q => q
  | kv :: kvs, H, Q, q => pairs_run kvs H _ q
theorem dv_dispS {kvs : List (Str × Str)} (hz : kvs.length ≤ 15) (h : DV K env te re) : DV K env (tDGet (tDisp (dispT kvs)) te) (re.bind (getS kvs)) := fun σ G H Q d s g e q => by
  obtain ⟨x, ex, e⟩ := bind_some e
  intro p hp
  refine pairs_run kvs _ _ ⟨upd_same, dispK kvs, rfl, by unfold dispK; rw [List.length_map]; exact hz, ?_⟩
  have hp' : H p = none := hp
  rw [show upd (upd H p (.dK [])) p (.dK (mergeK [] (dispK kvs))) = upd H p (.dK (mergeK [] (dispK kvs))) from funext fun b => by
    by_cases z : b = p
    · subst z; rw [upd_same, upd_same]
    · rw [upd_ne z, upd_ne z, upd_ne z]]
  have E0 : Ext G H G (upd H p (.dK (mergeK [] (dispK kvs)))) := Ext.own g hp'
  refine h σ G _ _ x s E0.gh ex fun v G1 H1 E1 h1 => ?_
  match x, h1, e with
  | .str z, .str _, e =>
    replace e : (match valV (mergeK [] (dispK kvs)) (.inr z) with | some (.str u) => some (PyData.str u) | _ => none) = some d := e
    split at e
    · rename_i u hu
      cases e
      exact ⟨p, .str u, rfl, .inl ⟨_, .inr z, .of (E1.hh p _ upd_same), rfl, hu.symm⟩, q _ G1 H1 (E0.trans E1) (.str _)⟩
    · cases e
end
theorem kDget {X : Cx} {o i : Expr} {pos : Pos} {td ty : TE} (hu : X.A.units + 64 < cLine) (ho : PE X o td) (hi : PE X i ty) (hs : NoSl i) : PE X (.Subscript o i pos) (tDGet td ty) := pe_dget (by omega) ho hi hs
section
variable {K : PySem.W.Frag} {M : Md} {env : En} {rA : Option (List D)} {β : Type} {eb : β → En}
theorem ds_par3 {i j k : Nat} {ta : TA} (h : DA K (noOw env) ta rA) : DS K M env (tPar3 i j k ta) (fun (p : D × D × D) => ((env.set i (.sh p.1)).set j (.sh p.2.1)).set k (.sh p.2.2)) eb (toO (threeO rA)) := fun σ G0 H0 B G H T s q => by
  cases e : threeO rA with
  | none => rw [e] at q; exact q.elim
  | some p =>
    rw [e] at q
    obtain ⟨ds, e1, e2⟩ := bind_some e
    match ds, e1, e2 with
    | [a, b, c], e1, e2 =>
      cases e2
      refine h σ G H _ _ s.shd s.ext.gh e1 fun vs G1 H1 E1 hv => ?_
      cases hv with
      | cons r t => cases t with
        | cons r2 t => cases t with
          | cons r3 t => cases t; exact ⟨_, _, _, rfl, q _ G1 H1 ((((s.ext' E1).set i r).set j r2).set k r3)⟩
end
/-! ### the law's def, where repr may be called -/
section
variable {P : Program} {w : World} {K : PySem.W.Frag} {mg : Str → Option Value} {base : Heap} {x qual : Str} {st : Stmt} {f : Addr} {fd : FuncData} {N ps : List Str} {k : Nat}
theorem runGS_mk {m : List Int → List D → Option D} (F : Fun K x qual st f fd) (S : FnScope N ps (defScope st)) (hl : ∀ ns ds d, m ns ds = some d → ds.length + 1 = ps.length) (hN : ps.length ≤ N.length)
    (body : ∀ (cdv : Value) (A : Around) (outer : List Env) (s : Shared) (H : Hp) (E : XK), A.guards = some [] → Room k (A.deeper (envOfC qual (defScope st) s.heap.objs.size f cdv)) →
      ∃ t, PSs (cxOf CX0 P w K mg base N qual (defScope st) f cdv A outer s H E).nox (defBody st) t ∧
        ∀ ns ds d, m ns ds = some d → ∃ (β : Type) (eb : β → En) (α : Type) (en : α → En) (o : Out α β), DS K (.no (RtS K)) (.sq ns :: env0 (N.length - 1) ds) t en eb o ∧ o.run = some d) : RunG P w K mg base (k + 1) f fd ps (spS K m) := by
  refine runG_mk F S (fun vs H Q E h => ?_) fun cdv A outer s H vs Q E hg hr h => ?_
  · obtain ⟨a, ns, ws, ds, d, G, _, rfl, _, ha, e, _⟩ := h
    rw [List.length_cons, dpa_len ha]; exact hl ns ds d e
  · obtain ⟨t, h1, h2⟩ := body cdv A outer s H E hg hr
    refine ⟨t, h1, ?_⟩
    obtain ⟨a, ns, ws, ds, d, G, g, rfl, hs, ha, e, q⟩ := h
    obtain ⟨β, eb, α, en, o, hd, ho⟩ := h2 ns ds d e
    refine hd _ G H G G H _ (start_envS g hs ha (by rw [hl ns ds d e]; exact hN)) ?_
    cases o with
    | nx a => cases ho; exact fun σ G' H' s => q .non G' H' s.ext .non
    | rt d' => cases ho; exact fun v G' H' r => q v G' H' r.1 r.2
    | bk b => cases ho
    | ct b => cases ho
    | no => cases ho
    | xc x => cases ho
end
end Dl

set_option Elab.async false
set_option linter.all false
set_option maxRecDepth 100000
set_option maxHeartbeats 2000000
namespace Dl
open PySem PySem.Spec PyProof.Rows L2
/-! ### data that repr shows: the text's size is at most w, the depth at most p -/
def Sh (w p : Nat) (d : D) : Prop := d.showable = true ∧ d.hasDict = false ∧ d.leavesShort 13 = true ∧ d.bulk ≤ w ∧ d.depth ≤ p
theorem Sh.mono {w p w' p' : Nat} {d : D} (h : Sh w p d) (a : w ≤ w') (b : p ≤ p') : Sh w' p' d := ⟨h.1, h.2.1, h.2.2.1, Nat.le_trans h.2.2.2.1 a, Nat.le_trans h.2.2.2.2 b⟩
theorem sh_int {i : Int} (h0 : 0 ≤ i) (h1 : i < 1000000000) : Sh 0 0 (.int i) := by
  obtain ⟨d, e, z, rfl, hz⟩ := strT_le (x := .int i) (hi := 999999999) ⟨i, rfl, h0, by omega⟩ (k := 9) (by decide) (by decide) (by decide)
  replace e : (if i.natAbs.log2 < 1920 then some (PyData.str (toString i)) else none) = some (.str z) := e
  by_cases hl : i.natAbs.log2 < 1920
  · rw [if_pos hl] at e; cases e
    refine ⟨decide_eq_true hl, rfl, decide_eq_true (Nat.le_trans (Nat.le_of_eq ?_) (Nat.le_trans hz (by decide))), Nat.le_refl _, Nat.le_refl _⟩
    rfl
  · rw [if_neg hl] at e; cases e
theorem sh_in {lo hi : Int} {d : D} (h : IntIn lo hi d) (h0 : 0 ≤ lo) (h1 : hi < 1000000000) : Sh 0 0 d := by
  obtain ⟨i, rfl, a, b⟩ := h; exact sh_int (by omega) (by omega)
theorem sh_str {z : Str} {n : Nat} (hz : z.length ≤ n) (hc : ∀ c ∈ z.cps.toList, c < 16 ^ 8) : Sh n 0 (.str z) :=
  ⟨rfl, rfl, by rw [PyData.leavesShort]; exact List.all_eq_true.mpr fun c h => decide_eq_true (hc c h), hz, Nat.le_refl _⟩
theorem sh_all {w p : Nat} : ∀ {xs : List D}, (∀ d ∈ xs, Sh w p d) → PyData.showableAll xs = true ∧ PyData.hasDictAll xs = false ∧ PyData.leavesShortAll 13 xs = true ∧ PyData.bulkAll xs ≤ xs.length * (w + 1) ∧ PyData.depthAll xs ≤ p
  | [], _ => ⟨by rw [PyData.showableAll], by rw [PyData.hasDictAll], by rw [PyData.leavesShortAll], by rw [PyData.bulkAll]; exact Nat.zero_le _, by rw [PyData.depthAll]; exact Nat.zero_le _⟩
  | x :: xs, h => by
    obtain ⟨a1, a2, a3, a4, a5⟩ := h x (by simp)
    obtain ⟨b1, b2, b3, b4, b5⟩ := sh_all (xs := xs) fun d hd => h d (by simp [hd])
    refine ⟨by rw [PyData.showableAll, a1, b1]; rfl, by rw [PyData.hasDictAll, a2, b2]; rfl, by rw [PyData.leavesShortAll, a3, b3]; rfl, ?_, by rw [PyData.depthAll]; exact Nat.max_le.mpr ⟨a5, b5⟩⟩
    rw [PyData.bulkAll, List.length_cons, Nat.succ_mul]; omega
theorem sh_list {w p n : Nat} {xs : List D} (h : ∀ d ∈ xs, Sh w p d) (hl : xs.length ≤ n) : Sh (n * (w + 1)) (p + 1) (.list xs) := by
  obtain ⟨b1, b2, b3, b4, b5⟩ := sh_all h
  have := Nat.mul_le_mul_right (w + 1) hl
  exact ⟨by rw [PyData.showable]; exact b1, by rw [PyData.hasDict]; exact b2, by rw [PyData.leavesShort]; exact b3, by rw [PyData.bulk]; omega, by rw [PyData.depth]; omega⟩
theorem sh_tup {w p n : Nat} {xs : List D} (h : ∀ d ∈ xs, Sh w p d) (hl : xs.length ≤ n) : Sh (n * (w + 1)) (p + 1) (.tuple xs) := by
  obtain ⟨b1, b2, b3, b4, b5⟩ := sh_all h
  have := Nat.mul_le_mul_right (w + 1) hl
  exact ⟨by rw [PyData.showable]; exact b1, by rw [PyData.hasDict]; exact b2, by rw [PyData.leavesShort]; exact b3, by rw [PyData.bulk]; omega, by rw [PyData.depth]; omega⟩
/-- repr gives its text -/
theorem repr_ok {w p : Nat} {d : D} (h : Sh w p d) (ha : atom d = false) (hw : w ≤ 1000000) (hp : p ≤ 60) : reprD [d] = some (.str d.shown) := by
  obtain ⟨h1, h2, h3, h4, h5⟩ := h
  have hz : d.shown.length ≤ sizeLine := PyData.shown_fits_bulk (B := 13) (by decide) (by decide) h3 (Nat.le_trans h4 (Nat.le_trans hw (by decide)))
  have e : showB d = true := by
    unfold showB
    rw [h1, h2, ha, decide_eq_true hz, decide_eq_true (Nat.le_trans h5 hp)]; rfl
  show (if showB d = true then some (PyData.str d.shown) else none) = _
  rw [if_pos e]
end Dl

set_option Elab.async false
set_option linter.all false
set_option maxRecDepth 100000
set_option maxHeartbeats 2000000
namespace Dl
open PySem PySem.Spec PyProof.Rows L2
/-! ### bits of ints; lists of ranges -/
section
variable {K : PySem.W.Frag} {env : En}
def shlD : D → D → Option D := intD (fun i j => decide (0 ≤ j ∧ j ≤ 1000000 ∧ i.natAbs < 2 ^ 64)) fun i j => .int (i * 2 ^ j.toNat)
theorem od_shl : OpD K (rI CPow fun i j => .int (i * 2 ^ j.toNat)) shlD := od_rI (fun i j h => (show (0 ≤ j ∧ j ≤ 1000000 ∧ i.natAbs < 2 ^ 64) from of_decide_eq_true h)) fun _ _ _ => .int _
def shrD : D → D → Option D := intD (fun _ j => decide (0 ≤ j)) fun i j => .int (i / 2 ^ j.toNat)
theorem od_shr : OpD K (rI (fun _ j => 0 ≤ j) fun i j => .int (i / 2 ^ j.toNat)) shrD := od_rI (fun i j h => of_decide_eq_true h) fun _ _ _ => .int _
def andD : D → D → Option D := intD0 fun i j => .int (Builtin.bitAnd i j)
theorem od_and : OpD K (rI0 fun i j => .int (Builtin.bitAnd i j)) andD := od_rI0 fun _ _ _ => .int _
def orD : D → D → Option D := intD0 fun i j => .int (Builtin.bitOr i j)
theorem od_or : OpD K (rI0 fun i j => .int (Builtin.bitOr i j)) orD := od_rI0 fun _ _ _ => .int _
def invD : D → Option D
  | .int i => some (.int (Builtin.bitNot i))
  | _ => none
theorem ud_inv : UnD K (rU fun i => .int (Builtin.bitNot i)) invD := fun G H Q x d v g hx e q => by
  match x, hx, e with
  | .int i, .int _, e => cases e; exact ⟨i, rfl, q _ G H (Ext.refl g) (.int _)⟩
def bitsD : D → Option D
  | .int i => some (.int (Builtin.Int.intBits i : Nat))
  | _ => none
theorem dv_bits {te : TE} {ra : Option D} (h : DV K env te ra) : DV K env (tBits te) (ra.bind bitsD) := fun σ G H Q d s g e q => by
  obtain ⟨x, ex, e⟩ := bind_some e
  refine h σ G H _ x s g ex fun v G1 H1 E1 h1 => ?_
  match x, h1, e with
  | .int i, .int _, e => cases e; exact ⟨i, rfl, q _ G1 H1 E1 (.int _)⟩
/-- list(range(..)) -/
def okR24 : Int → Bool
  | .ofNat n => Nat.ble n 16777215
  | .negSucc _ => false
theorem okR24_of {i : Int} (h : okR24 i = true) : 0 ≤ i ∧ i ≤ 16777215 := by
  cases i with
  | ofNat n =>
    have := Nat.le_of_ble_eq_true h
    show (0 : Int) ≤ (n : Int) ∧ (n : Int) ≤ 16777215
    omega
  | negSucc n => cases h
theorem okR24_by {n : Nat} (h : n ≤ 1000000) : okR24 (n : Int) = true := Nat.ble_eq_true_of_le (by omega)
def lrg1 : D → Option (List D)
  | .int j => if okR24 j = true then some (rngD 0 j.toNat) else none
  | _ => none
theorem rgV_dpa {H : Hp} {a b : Int} : DpAll K H (rgV a b) (rngD a (b - a).toNat) := by
  unfold rgV rngD
  generalize (List.range (b - a).toNat) = l
  induction l with
  | nil => exact .nil
  | cons x xs ih => exact .cons (.int _) ih
theorem dl_lrg1 {te : TE} {ra : Option D} (h : DV K env te ra) : DL K env (tLstRg (tRg1 te)) (ra.bind lrg1) := fun σ G H Q d s g e q => by
  obtain ⟨x, ex, e⟩ := bind_some e
  refine h σ G H _ x s g ex fun v G1 H1 E1 h1 => ?_
  match x, h1, e with
  | .int j, .int _, e =>
    replace e : (if okR24 j = true then some (rngD 0 j.toNat) else none) = some d := e
    by_cases hb : okR24 j = true
    · rw [if_pos hb] at e; cases e
      obtain ⟨h0, h2⟩ := okR24_of hb
      refine ⟨j, rfl, ⟨by omega, by omega, by omega, by omega, by omega⟩, fun p hp => ?_⟩
      refine q p _ G1 _ (E1.trans (Ext.own E1.gh hp)) (E1.hh.free hp) (E1.gh.free hp) upd_same ?_
      have := rgV_dpa (K := K) (H := G1) (a := 0) (b := j)
      rwa [Int.sub_zero] at this
    · rw [if_neg hb] at e; cases e
end
/-! max, min, sorted of ints -/
section
variable {K : PySem.W.Frag} {env : En}
def maxL : Int → List Int → Int
  | m, [] => m
  | m, x :: xs => maxL (if m < x then x else m) xs
theorem maxL_mem : ∀ (m : Int) (xs : List Int), maxL m xs = m ∨ maxL m xs ∈ xs
  | m, [] => .inl rfl
  | m, x :: xs => by
    unfold maxL
    rcases maxL_mem (if m < x then x else m) xs with h | h
    · rw [h]
      by_cases c : m < x
      · rw [if_pos c]; exact .inr (by simp)
      · rw [if_neg c]; exact .inl rfl
    · exact .inr (by simp [h])
theorem maxL_ge : ∀ (m : Int) (xs : List Int), m ≤ maxL m xs ∧ ∀ y ∈ xs, y ≤ maxL m xs
  | m, [] => ⟨Int.le_refl _, fun _ h => by cases h⟩
  | m, x :: xs => by
    unfold maxL
    obtain ⟨h1, h2⟩ := maxL_ge (if m < x then x else m) xs
    by_cases c : m < x
    · rw [if_pos c] at h1 h2 ⊢
      refine ⟨by omega, fun y hy => ?_⟩
      rcases List.mem_cons.mp hy with rfl | hy
      · exact h1
      · exact h2 y hy
    · rw [if_neg c] at h1 h2 ⊢
      refine ⟨h1, fun y hy => ?_⟩
      rcases List.mem_cons.mp hy with rfl | hy
      · omega
      · exact h2 y hy
def maxD : List D → Option D
  | [.list ds] => (intsD ds).bind fun ns => match ns with
    | [] => none
    | n :: ns => some (.int (maxL n ns))
  | _ => none
theorem cd_max : ClD K (rMax K) maxD := fun G H Q xs d vs g hx e q => by
  match xs, hx, e with
  | [.list ds], .cons (.lst h1 h2) .nil, e =>
    obtain ⟨ns, e1, e2⟩ := bind_some (show (intsD ds).bind _ = some d from e)
    match ns, e1, e2 with
    | n :: ns, e1, e2 =>
      cases e2
      refine ⟨_, n :: ns, rfl, by rw [← ints_of h2 e1]; exact .inl (rd_mono g (.inl h1)), by simp, fun m hm hge => ?_⟩
      have : m = maxL n ns := by
        obtain ⟨a, b⟩ := maxL_ge n ns
        have h3 : m ≤ maxL n ns := by
          rcases List.mem_cons.mp hm with rfl | hm
          · exact a
          · exact b m hm
        have h4 : maxL n ns ≤ m := hge _ (by
          rcases maxL_mem n ns with h | h
          · rw [h]; simp
          · simp [h])
        omega
      subst this
      exact q _ G H (Ext.refl g) (.int _)
theorem kMax {X : Cx} (K : PySem.W.Frag) (h : X.K = K := by rfl) (hc : X.calm = true := by rfl) : CallR X (.builtin "max") (rMax K) := h ▸ cr_max hc
/-- sorted, of ints -/
def insI (x : Int) : List Int → List Int
  | [] => [x]
  | y :: ys => if x ≤ y then x :: y :: ys else y :: insI x ys
def srtI : List Int → List Int
  | [] => []
  | x :: xs => insI x (srtI xs)
theorem insI_perm (x : Int) : ∀ ys, (insI x ys).Perm (x :: ys)
  | [] => .refl _
  | y :: ys => by
    unfold insI
    by_cases c : x ≤ y
    · rw [if_pos c]
    · rw [if_neg c]; exact ((insI_perm x ys).cons y).trans (.swap x y ys)
theorem srtI_perm : ∀ xs, (srtI xs).Perm xs
  | [] => .refl _
  | x :: xs => (insI_perm x _).trans ((srtI_perm xs).cons x)
theorem insI_sorted (x : Int) : ∀ {ys : List Int}, ys.Pairwise (· ≤ ·) → (insI x ys).Pairwise (· ≤ ·)
  | [], _ => by simp [insI]
  | y :: ys, h => by
    unfold insI
    rw [List.pairwise_cons] at h
    by_cases c : x ≤ y
    · rw [if_pos c, List.pairwise_cons, List.pairwise_cons]
      refine ⟨fun z hz => ?_, h⟩
      rcases List.mem_cons.mp hz with rfl | hz
      · exact c
      · exact Int.le_trans c (h.1 z hz)
    · rw [if_neg c, List.pairwise_cons]
      refine ⟨fun z hz => ?_, insI_sorted x h.2⟩
      rcases List.mem_cons.mp ((insI_perm x ys).mem_iff.mp hz) with rfl | hz
      · omega
      · exact h.1 z hz
theorem srtI_sorted : ∀ xs, (srtI xs).Pairwise (· ≤ ·)
  | [] => .nil
  | x :: xs => insI_sorted x (srtI_sorted xs)
theorem sorted_one {xs ys : List Int} (p : xs.Perm ys) (hx : xs.Pairwise (· ≤ ·)) (hy : ys.Pairwise (· ≤ ·)) : xs = ys := List.Perm.eq_of_pairwise (fun _ _ _ _ h1 h2 => Int.le_antisymm h1 h2) hx hy p
def sortLs : List D → Option (List D)
  | [.list ds] => (intsD ds).bind fun ns => if ns.length < 64 then some ((srtI ns).map PyData.int) else none
  | _ => none
theorem cl_sort : ClL K (rSorted K) sortLs := fun G H Q xs ds vs g hx e q => by
  match xs, hx, e with
  | [.list es], .cons (.lst h1 h2) .nil, e =>
    obtain ⟨ns, e1, e2⟩ := bind_some (show (intsD es).bind _ = some ds from e)
    by_cases hz : ns.length < 64
    · rw [if_pos hz] at e2; cases e2
      refine ⟨_, ns, rfl, by rw [← ints_of h2 e1]; exact .inl (rd_mono g (.inl h1)), hz, fun ns' p hp hs fp => ?_⟩
      have := sorted_one (hp.trans (srtI_perm ns).symm) hs (srtI_sorted ns)
      subst this
      exact q p _ G _ (Ext.own g fp) fp (g.free fp) upd_same (dpa_ints _)
    · rw [if_neg hz] at e2; cases e2
theorem kSorted {X : Cx} (K : PySem.W.Frag) (h : X.K = K := by rfl) : CallR X (.builtin "sorted") (rSorted K) := h ▸ cr_sorted
end
end Dl
namespace Dl
open PySem PySem.Spec PyProof.Rows L2
/-! a value's truth -/
def truD : D → Option Bool
  | .none => some false
  | .bool b => some b
  | .int i => some (i != 0)
  | .str z => if z.length ≤ sizeLine then some ((z.length : Int) != 0) else none
  | .list ds => some (!ds.isEmpty)
  | .tuple ds => some (!ds.isEmpty)
  | .dict _ => none
theorem dpa_empty {K : PySem.W.Frag} {H : Hp} {vs : List V} {ds : List D} (h : DpAll K H vs ds) : (!vs.isEmpty) = (!ds.isEmpty) := by
  cases h <;> rfl
/-- a test that is a value's truth -/
def tTr (K : PySem.W.Frag) (ta : TE) : TT := fun σ H Q => ta σ H fun x H1 => ∃ k, TruV K x H1 k ∧ Q k H1
theorem dt_tru {K : PySem.W.Frag} {env : En} {te : TE} {ra : Option D} (h : DV K env te ra) : DT K env (tTr K te) (ra.bind truD) := fun σ G H Q b s g e q => by
  obtain ⟨x, ex, e⟩ := bind_some e
  refine h σ G H _ x s g ex fun v G1 H1 E1 h1 => ?_
  match x, h1, e with
  | .none, .non, e => cases e; exact ⟨_, rfl, q G1 H1 E1⟩
  | .bool b, .bl _, e => cases e; exact ⟨_, rfl, q G1 H1 E1⟩
  | .int i, .int _, e => cases e; exact ⟨_, rfl, q G1 H1 E1⟩
  | .str z, .str _, e =>
    replace e : (if z.length ≤ sizeLine then some ((z.length : Int) != 0) else none) = some b := e
    by_cases hz : z.length ≤ sizeLine
    · rw [if_pos hz] at e; cases e; exact ⟨_, ⟨hz, rfl⟩, q G1 H1 E1⟩
    · rw [if_neg hz] at e; cases e
  | .list ds, .lst h1 h2, e =>
    cases e
    exact ⟨_, .inl ⟨_, .inl (rd_mono E1.gh (.inl h1)), (dpa_empty h2).symm⟩, q G1 H1 E1⟩
  | .tuple ds, .tup h1 h2, e =>
    cases e
    exact ⟨_, .inr (.inl ⟨_, sqt_mono E1.gh h1, (dpa_empty h2).symm⟩), q G1 H1 E1⟩
theorem kTru {X : Cx} (K : PySem.W.Frag) {a : Expr} {ta : TE} (ha : PE X a ta) (he : ∀ whole, isTrue a X.env whole = (do let v ← whole; standAt a.pos; holding [v] (truthy v))) (h : X.K = K := by rfl) : PT X a (tTr K ta) := by
  subst h; exact pt_truth ha he
end Dl
namespace Dl
open PySem PySem.Spec PyProof.Rows L2
theorem ip_or {X : Cx} : PIp X .BitOr (rI0 fun i j => .int (Builtin.bitOr i j)) := fun pins s σ H x y v u Q I r1 r2 h => iop_or pins s σ H x y v u Q I r1 r2 h
theorem ip_and {X : Cx} : PIp X .BitAnd (rI0 fun i j => .int (Builtin.bitAnd i j)) := fun pins s σ H x y v u Q I r1 r2 h => iop_and pins s σ H x y v u Q I r1 r2 h
end Dl
namespace Dl
open PySem PySem.Spec PyProof.Rows L2
/-! a new list times an int -/
def repD (ds : List D) : D → Option (List D)
  | .int k => if (okR24 k && decide (ds.length * k.toNat ≤ 1000000)) = true then some (List.replicate k.toNat ds).flatten else none
  | _ => none
def repO (rA : Option (List D)) (rb : Option D) : Option (List D) := rA.bind fun ds => rb.bind (repD ds)
theorem dpa_flat {K : PySem.W.Frag} {H : Hp} {vs : List V} {ds : List D} (h : DpAll K H vs ds) : ∀ n : Nat, DpAll K H (List.replicate n vs).flatten (List.replicate n ds).flatten
  | 0 => .nil
  | n + 1 => by
    rw [List.replicate_succ, List.replicate_succ, List.flatten_cons, List.flatten_cons]
    exact dpa_app h (dpa_flat h n)
theorem dl_rep {K : PySem.W.Frag} {env : En} {ta tb : TE} {rA : Option (List D)} {rb : Option D} (ha : DL K env ta rA) (hb : DV K env tb rb) : DL K env (tOp rRep ta tb) (repO rA rb) := fun σ G H Q d s g e q => by
  obtain ⟨ds, ex, e⟩ := bind_some e
  obtain ⟨y, ey, e⟩ := bind_some e
  refine ha σ G H _ ds s g ex fun p xs G1 H1 E1 hp gp hl hd => ?_
  refine hb σ G1 H1 _ y (s.mono E1.gg) E1.gh ey fun w G2 H2 E2 h2 => ?_
  match y, h2, e with
  | .int k, .int _, e =>
    replace e : (if (okR24 k && decide (ds.length * k.toNat ≤ 1000000)) = true then some (List.replicate k.toNat ds).flatten else none) = some d := e
    by_cases hz : (okR24 k && decide (ds.length * k.toNat ≤ 1000000)) = true
    · rw [if_pos hz] at e; cases e
      rw [Bool.and_eq_true] at hz
      obtain ⟨z1, z2⟩ := hz
      obtain ⟨k0, k1⟩ := okR24_of z1
      have z3 := of_decide_eq_true z2
      have hm : (1000000 : Nat) ≤ sizeLine := by decide
      refine ⟨p, k, xs, rfl, rfl, E2.hh _ _ hl, by omega, by omega, by rw [dpa_len hd]; omega, fun q' hq => ?_⟩
      have E12 := E1.trans E2
      exact q q' _ G2 _ (E12.trans (Ext.own E2.gh hq)) (E12.hh.free hq) (E2.gh.free hq) upd_same (dpa_flat (dpa_mono E2.gg _ _ hd) k.toNat)
    · rw [if_neg hz] at e; cases e
theorem flat_one {α : Type} (a : α) : ∀ n : Nat, (List.replicate n [a]).flatten = List.replicate n a
  | 0 => rfl
  | n + 1 => by rw [List.replicate_succ, List.flatten_cons, flat_one a n]; rfl
theorem repO_one {d : D} {n : Nat} (h : n ≤ 1000000) : repD [d] (.int (n : Int)) = some (List.replicate n d) := by
  show (if (okR24 (n : Int) && decide ([d].length * ((n : Int)).toNat ≤ 1000000)) = true then some (List.replicate ((n : Int)).toNat [d]).flatten else none) = _
  rw [okR24_by h, Int.toNat_natCast, decide_eq_true (by simpa using h), Bool.and_true, if_pos rfl, flat_one]
end Dl

set_option Elab.async false
set_option linter.all false
set_option maxRecDepth 100000
set_option maxHeartbeats 2000000
namespace Dl
open PySem PySem.Spec PyProof.Rows L2
/-! ### running a mirror: one lemma a word -/
section
variable {α β γ : Type}
@[simp] theorem e_op2 {f : D → D → Option α} {x y : D} : op2 f (some x) (some y) = f x y := rfl
@[simp] theorem e_consO {x : D} {xs : List D} : consO (some x) (some xs) = some (x :: xs) := rfl
@[simp] theorem e_newO {xs : List D} : newO (some xs) = some (.list xs) := rfl
@[simp] theorem e_toO {a : α} : (toO (some a) : Out α β) = .nx a := rfl
@[simp] theorem e_toR {d : D} : (toR (some d) : Out α β) = .rt d := rfl
@[simp] theorem e_bnx {a : α} {k : α → Out γ β} : Out.bind (.nx a) k = k a := rfl
@[simp] theorem e_brt {d : D} {k : α → Out γ β} : Out.bind (.rt d) k = .rt d := rfl
@[simp] theorem e_bbk {b : β} {k : α → Out γ β} : Out.bind (.bk b) k = .bk b := rfl
@[simp] theorem e_bct {b : β} {k : α → Out γ β} : Out.bind (.ct b) k = .ct b := rfl
@[simp] theorem e_rrt {d : D} : Out.run (.rt d : Out α β) = some d := rfl
@[simp] theorem e_rnx {a : α} : Out.run (.nx a : Out α β) = some .none := rfl
@[simp] theorem e_if1 {o u : Out α β} : ifO (some true) o u = o := rfl
@[simp] theorem e_if0 {o u : Out α β} : ifO (some false) o u = u := rfl
theorem e_ifb {o u : Out α β} {b : Bool} : ifO (some b) o u = if b = true then o else u := by cases b <;> rfl
@[simp] theorem e_notT {b : Bool} : notT (some b) = some (!b) := rfl
@[simp] theorem e_and1 {r : Option Bool} : andT (some true) r = r := rfl
@[simp] theorem e_and0 {r : Option Bool} : andT (some false) r = some false := rfl
@[simp] theorem e_or1 {r : Option Bool} : orT (some true) r = some true := rfl
@[simp] theorem e_or0 {r : Option Bool} : orT (some false) r = r := rfl
theorem e_or {a b : Bool} : orT (some a) (some b) = some (a || b) := by cases a <;> rfl
theorem e_and {a b : Bool} : andT (some a) (some b) = some (a && b) := by cases a <;> rfl
@[simp] theorem e_asB {b : Bool} : asB (.bool b) = some b := rfl
@[simp] theorem e_asL {xs : List D} : asL (.list xs) = some xs := rfl
@[simp] theorem e_asU {xs : List D} : asU (.tuple xs) = some xs := rfl
@[simp] theorem e_iterL {xs : List D} : iterD (.list xs) = some xs := rfl
@[simp] theorem e_iterU {xs : List D} : iterD (.tuple xs) = some xs := rfl
@[simp] theorem e_twoO {x y : D} : twoO (some [x, y]) = some (x, y) := rfl
@[simp] theorem e_threeO {x y z : D} : threeO (some [x, y, z]) = some (x, y, z) := rfl
@[simp] theorem e_twoD {x y : D} {k : D → D → α} {n : α} : twoD (.tuple [x, y]) k n = k x y := rfl
@[simp] theorem e_add {i j : Int} : addD (.int i) (.int j) = some (.int (i + j)) := rfl
@[simp] theorem e_addI {i j : Int} : addID (.int i) (.int j) = some (.int (i + j)) := rfl
@[simp] theorem e_sub {i j : Int} : subD (.int i) (.int j) = some (.int (i - j)) := rfl
@[simp] theorem e_and' {i j : Int} : andD (.int i) (.int j) = some (.int (Builtin.bitAnd i j)) := rfl
@[simp] theorem e_or' {i j : Int} : orD (.int i) (.int j) = some (.int (Builtin.bitOr i j)) := rfl
@[simp] theorem e_inv {i : Int} : invD (.int i) = some (.int (Builtin.bitNot i)) := rfl
@[simp] theorem e_neg {i : Int} : negD (.int i) = some (.int (-i)) := rfl
@[simp] theorem e_lt {i j : Int} : ltD (.int i) (.int j) = some (.bool (decide (i < j))) := rfl
@[simp] theorem e_le {i j : Int} : leD (.int i) (.int j) = some (.bool (decide (i ≤ j))) := rfl
@[simp] theorem e_gt {i j : Int} : gtD (.int i) (.int j) = some (.bool (decide (j < i))) := rfl
@[simp] theorem e_ge {i j : Int} : geD (.int i) (.int j) = some (.bool (decide (j ≤ i))) := rfl
@[simp] theorem e_eqi {i j : Int} : eqX (.int i) (.int j) = some (.bool (decide (i = j))) := rfl
@[simp] theorem e_eqs {i j : Str} : eqX (.str i) (.str j) = some (.bool (decide (i = j))) := rfl
@[simp] theorem e_eqb {i j : Bool} : eqX (.bool i) (.bool j) = some (.bool (decide (i = j))) := rfl
@[simp] theorem e_nei {i j : Int} : neX (.int i) (.int j) = some (.bool (!decide (i = j))) := rfl
@[simp] theorem e_nes {i j : Str} : neX (.str i) (.str j) = some (.bool (!decide (i = j))) := rfl
@[simp] theorem e_neb {i j : Bool} : neX (.bool i) (.bool j) = some (.bool (!decide (i = j))) := rfl
@[simp] theorem e_abs {i : Int} : absD [.int i] = some (.int (if i < 0 then -i else i)) := rfl
@[simp] theorem e_intT {i : Int} : intTD [.int i] = some (.int i) := rfl
@[simp] theorem e_intB {b : Bool} : intTD [.bool b] = some (.int (if b then 1 else 0)) := rfl
@[simp] theorem e_part {i : Int} : partD (.int i) = some (some i) := rfl
@[simp] theorem e_atomI {i : Int} : atomO (some (.int i)) = some (.int i) := rfl
@[simp] theorem e_atomB {i : Bool} : atomO (some (.bool i)) = some (.bool i) := rfl
@[simp] theorem e_atomS {i : Str} : atomO (some (.str i)) = some (.str i) := rfl
@[simp] theorem e_atomN : atomO (some .none) = some .none := rfl
@[simp] theorem e_lenL {xs : List D} : lenD [.list xs] = some (.int xs.length) := rfl
@[simp] theorem e_lenU {xs : List D} : lenD [.tuple xs] = some (.int xs.length) := rfl
@[simp] theorem e_listL {xs : List D} : listLs [.list xs] = some xs := rfl
@[simp] theorem e_listU {xs : List D} : listLs [.tuple xs] = some xs := rfl
@[simp] theorem e_truL {xs : List D} : truD (.list xs) = some (!xs.isEmpty) := rfl
@[simp] theorem e_truI {i : Int} : truD (.int i) = some (i != 0) := rfl
@[simp] theorem e_truB {i : Bool} : truD (.bool i) = some i := rfl
@[simp] theorem e_forR {body : α → D → Out α α} {ds : List D} {a : α} : (forR body (some ds) a : Out α β) = forO body ds a := rfl
@[simp] theorem e_slO {f : D → Option Int → Option Int → Option α} {x : D} {l h : Option Int} : slO f (some x) (some l) (some h) = f x l h := rfl
theorem e_setIX {ds : List D} {d k : D} : setIX ds (some d) (some k) = setL ds k d := rfl
@[simp] theorem e_setIO {ds : List D} {d k : D} (h : atom d = true) : setIO ds (some d) (some k) = setL ds k d := by
  show (atomO (some d)).bind _ = _
  unfold atomO
  show ((if atom d = true then some d else none).bind _ : Option (List D)) = _
  rw [if_pos h]; rfl
@[simp] theorem e_atomI' {i : Int} : atom (.int i) = true := rfl
@[simp] theorem e_atomB' {i : Bool} : atom (.bool i) = true := rfl
@[simp] theorem e_atomN' : atom .none = true := rfl
@[simp] theorem e_isN : isNoneD .none .none = some (.bool true) := rfl
@[simp] theorem e_isNi {i : Int} : isNoneD (.int i) .none = some (.bool false) := rfl
@[simp] theorem e_isO {T : String} {d : D} : isO T (some d) = some (.bool (isT T d)) := rfl
@[simp] theorem e_sz0 : szL [] = some [] := szL_nil
@[simp] theorem e_sz1 {a : D} : szL [a] = some [a] := szL_one
@[simp] theorem e_sz2 {a b : D} : szL [a, b] = some [a, b] := szL_ok (show 2 ≤ 1000000 by decide)
@[simp] theorem e_sz3 {a b c : D} : szL [a, b, c] = some [a, b, c] := szL_ok (show 3 ≤ 1000000 by decide)
@[simp] theorem e_sz4 {a b c d : D} : szL [a, b, c, d] = some [a, b, c, d] := szL_ok (show 4 ≤ 1000000 by decide)
@[simp] theorem e_tup2 {a b : D} : tupD [a, b] = some (.tuple [a, b]) := tupD_two
@[simp] theorem e_tup3 {a b c : D} : tupD [a, b, c] = some (.tuple [a, b, c]) := tupD_three
end
/-! items of written lists and tuples -/
@[simp] theorem e_ix0 {a : D} {r : List D} : ixD (.tuple (a :: r)) (.int 0) = some a := by
  show atI (a :: r) 0 = _
  unfold atI ixN; simp
@[simp] theorem e_ix1 {a b : D} {r : List D} : ixD (.tuple (a :: b :: r)) (.int 1) = some b := by
  show atI (a :: b :: r) 1 = _
  unfold atI ixN
  rw [if_pos (by decide), if_pos (by simp; omega)]; rfl
@[simp] theorem e_ix2 {a b c : D} {r : List D} : ixD (.tuple (a :: b :: c :: r)) (.int 2) = some c := by
  show atI (a :: b :: c :: r) 2 = _
  unfold atI ixN
  rw [if_pos (by decide), if_pos (by simp; omega)]; rfl
theorem ix_nat {xs : List D} {k : Nat} {d : D} (h : xs[k]? = some d) : ixD (.list xs) (.int (k : Int)) = some d := by
  have hl : k < xs.length := by
    rcases Nat.lt_or_ge k xs.length with z | z
    · exact z
    · rw [List.getElem?_eq_none z] at h; cases h
  show atI xs (k : Int) = _
  unfold atI ixN
  rw [if_pos (by omega), if_pos (by omega)]
  simpa using h
/-- the k-th of a mapped list -/
theorem ix_map {α : Type} {as : List α} {enc : α → D} {k : Nat} (h : k < as.length) : ixD (.list (as.map enc)) (.int (k : Int)) = some (enc as[k]) := ix_nat (by rw [List.getElem?_map, List.getElem?_eq_getElem h]; rfl)
/-! lists of naturals -/
abbrev nD (n : Nat) : D := .int (n : Int)
abbrev nL (ns : List Nat) : List D := ns.map nD
theorem rng_nL {n : Nat} : rngD 0 n = nL (List.range n) := by
  unfold rngD
  exact List.map_congr_left fun k _ => by rw [Int.zero_add]
theorem rng1_nL {n : Nat} (h : n ≤ 1000000) : rng1D [nD n] = some (nL (List.range n)) := by rw [rng1D_is h, rng_nL]
theorem lrg1_nL {n : Nat} (h : n ≤ 1000000) : lrg1 (nD n) = some (nL (List.range n)) := by
  show (if okR24 (n : Int) = true then some (rngD 0 ((n : Int)).toNat) else none) = _
  rw [if_pos (okR24_by h), Int.toNat_natCast, rng_nL]
/-! comprehensions over typed lists -/
theorem lcD_enc {α β : Type} {enc : α → D} {enc' : β → D} {t : D → Option Bool} {f : D → Option D} {P : α → Bool} {g : α → β} : ∀ {as : List α}, (∀ a ∈ as, t (enc a) = some (P a)) → (∀ a ∈ as, P a = true → f (enc a) = some (enc' (g a))) →
    lcD t f (as.map enc) = some (((as.filter P).map g).map enc')
  | [], _, _ => rfl
  | a :: as, ht, hf => by
    have ih := lcD_enc (enc := enc) (enc' := enc') (t := t) (f := f) (P := P) (g := g) (as := as) (fun b hb => ht b (by simp [hb])) fun b hb => hf b (by simp [hb])
    rw [List.map_cons]
    unfold lcD
    rw [ht a (by simp)]
    cases hp : P a with
    | true => rw [hf a (by simp) hp, ih, List.filter_cons_of_pos hp]; rfl
    | false => rw [List.filter_cons_of_neg (by simp [hp])]; exact ih
theorem lcZ_enc {α β : Type} {enc : α → D} {enc' : β → D} {t : D → Option Bool} {f : D → Option D} (P : α → Bool) (g : α → β) {as : List α} (hl : as.length ≤ 1000000) (ht : ∀ a ∈ as, t (enc a) = some (P a)) (hf : ∀ a ∈ as, P a = true → f (enc a) = some (enc' (g a))) :
    lcZ t f (as.map enc) = some (((as.filter P).map g).map enc') := by
  unfold lcZ
  rw [List.length_map, if_pos (Nat.le_trans hl million_le), lcD_enc ht hf]
theorem lcZ_encM {α β : Type} {enc : α → D} {enc' : β → D} {f : D → Option D} (g : α → β) {as : List α} (hl : as.length ≤ 1000000) (hf : ∀ a ∈ as, f (enc a) = some (enc' (g a))) :
    lcZ (fun _ => some true) f (as.map enc) = some ((as.map g).map enc') := by
  rw [lcZ_enc (fun _ => true) g hl (fun _ _ => rfl) fun a ha _ => hf a ha, List.filter_eq_self.mpr (fun _ _ => rfl)]
/-- a filter of a typed list -/
theorem lcZ_encF {α : Type} {enc : α → D} {t : D → Option Bool} (P : α → Bool) {as : List α} (hl : as.length ≤ 1000000) (ht : ∀ a ∈ as, t (enc a) = some (P a)) :
    lcZ t (fun v => some v) (as.map enc) = some ((as.filter P).map enc) := by
  rw [lcZ_enc P (fun a => a) hl ht fun _ _ _ => rfl, List.map_id']
theorem lcZ_encF' {t : D → Option Bool} (P : Nat → Bool) {as : List Nat} (hl : as.length ≤ 1000000) (ht : ∀ a ∈ as, t (nD a) = some (P a)) :
    lcZ t (fun v => some v) (nL as) = some (nL (as.filter P)) := lcZ_encF (enc := nD) P hl ht
/-! loops over typed lists -/
theorem forO_fold {α σ τ β : Type} {enc : α → D} {es : σ → τ} {body : τ → D → Out τ τ} (step : σ → α → σ) (I : σ → Prop) : ∀ {as : List α} {s : σ}, I s → (∀ a ∈ as, ∀ s, I s → (body (es s) (enc a) = .nx (es (step s a)) ∨ body (es s) (enc a) = .ct (es (step s a))) ∧ I (step s a)) →
    (forO body (as.map enc) (es s) : Out τ β) = .nx (es (as.foldl step s)) ∧ I (as.foldl step s)
  | [], s, hi, _ => ⟨rfl, hi⟩
  | a :: as, s, hi, h => by
    obtain ⟨h1, h2⟩ := h a (by simp) s hi
    have ih := forO_fold (β := β) (enc := enc) (es := es) (body := body) step I (as := as) (s := step s a) h2 fun b hb => h b (by simp [hb])
    refine ⟨?_, ih.2⟩
    rw [List.map_cons]
    unfold forO
    rcases h1 with h1 | h1 <;> (rw [h1]; exact ih.1)
/-- a loop that looks for something and returns -/
theorem forO_find {α τ β : Type} {enc : α → D} {body : τ → D → Out τ τ} {s : τ} {d : D} (P : α → Bool) : ∀ {as : List α}, (∀ a ∈ as, body s (enc a) = if P a = true then .rt d else .nx s) →
    (forO body (as.map enc) s : Out τ β) = if as.any P = true then .rt d else .nx s
  | [], _ => rfl
  | a :: as, h => by
    have ih := forO_find (β := β) (enc := enc) (body := body) (s := s) (d := d) P (as := as) fun b hb => h b (by simp [hb])
    rw [List.map_cons]
    unfold forO
    rw [h a (by simp)]
    cases hp : P a with
    | true => simp [hp]
    | false => simp only [Bool.false_eq_true, if_false, List.any_cons, hp, Bool.false_or]; exact ih
theorem forO_nop {τ β : Type} {body : τ → D → Out τ τ} {s : τ} (h : ∀ (b : τ) (d : D), body b d = .nx b) : ∀ xs : List D, (forO body xs s : Out τ β) = .nx s
  | [] => rfl
  | x :: xs => by
    unfold forO
    rw [h]; exact forO_nop h xs
/-! == of data in a plain form -/
theorem eqX_list {xs ys : List D} (hx : SeqAt.shaped (.list xs) = true) (hy : SeqAt.shaped (.list ys) = true) : eqX (.list xs) (.list ys) = some (.bool (PyData.eqv (.list xs) (.list ys))) := by
  show eqD _ _ = _
  unfold eqD
  rw [if_pos ⟨hx, hy⟩]
end Dl

set_option Elab.async false
set_option linter.all false
set_option maxRecDepth 100000
set_option maxHeartbeats 2000000
namespace Dl
open PySem PySem.Spec PyProof.Rows L2
/-! ### ascending lists of naturals, and their bits -/
abbrev Asc (xs : List Nat) : Prop := xs.Pairwise (· < ·)
theorem asc_ext : ∀ {xs ys : List Nat}, Asc xs → Asc ys → (∀ k, k ∈ xs ↔ k ∈ ys) → xs = ys
  | [], [], _, _, _ => rfl
  | [], y :: ys, _, _, h => by have := (h y).mpr (by simp); simp at this
  | x :: xs, [], _, _, h => by have := (h x).mp (by simp); simp at this
  | x :: xs, y :: ys, hx, hy, h => by
    rw [Asc, List.pairwise_cons] at hx hy
    have h1 : y ≤ x := by
      rcases List.mem_cons.mp ((h x).mp (by simp)) with e | e
      · omega
      · exact Nat.le_of_lt (hy.1 x e)
    have h2 : x ≤ y := by
      rcases List.mem_cons.mp ((h y).mpr (by simp)) with e | e
      · omega
      · exact Nat.le_of_lt (hx.1 y e)
    have e : x = y := by omega
    subst e
    rw [asc_ext hx.2 hy.2 fun k => ⟨fun hk => ?_, fun hk => ?_⟩]
    · rcases List.mem_cons.mp ((h k).mp (by simp [hk])) with e | e
      · have := hx.1 k hk; omega
      · exact e
    · rcases List.mem_cons.mp ((h k).mpr (by simp [hk])) with e | e
      · have := hy.1 k hk; omega
      · exact e
theorem asc_range (n : Nat) : Asc (List.range n) := List.pairwise_lt_range
theorem asc_filter {xs : List Nat} {p : Nat → Bool} (h : Asc xs) : Asc (xs.filter p) := List.Pairwise.filter p h
theorem asc_nodup {xs : List Nat} (h : Asc xs) : xs.Nodup := List.Pairwise.imp (fun h => Nat.ne_of_lt h) h
theorem asc_filter_len {xs : List Nat} {n : Nat} (h : Asc xs) (hb : ∀ x ∈ xs, x < n) : xs = (List.range n).filter (fun k => decide (k ∈ xs)) :=
  asc_ext h (asc_filter (asc_range n)) fun k => by
    rw [List.mem_filter, List.mem_range, decide_eq_true_eq]
    exact ⟨fun hk => ⟨hb k hk, hk⟩, fun hk => hk.2⟩
theorem asc_len {xs : List Nat} {n : Nat} (h : Asc xs) (hb : ∀ x ∈ xs, x < n) : xs.length ≤ n := by
  rw [asc_filter_len h hb]
  exact Nat.le_trans (List.length_filter_le _ _) (by rw [List.length_range]; exact Nat.le_refl n)
/-- the number whose bits are these -/
def bsN (xs : List Nat) : Nat := xs.foldl (fun b x => b ||| 2 ^ x) 0
theorem tb_pow (x i : Nat) : (2 ^ x).testBit i = decide (i = x) := by
  rw [Nat.testBit_two_pow]
  exact decide_eq_decide.mpr ⟨fun h => h.symm, fun h => h.symm⟩
theorem tb_fold : ∀ (xs : List Nat) (b i : Nat), (xs.foldl (fun b x => b ||| 2 ^ x) b).testBit i = (b.testBit i || decide (i ∈ xs))
  | [], b, i => by simp
  | x :: xs, b, i => by
    rw [List.foldl_cons, tb_fold xs, Nat.testBit_or, tb_pow]
    rw [Bool.or_assoc, ← Bool.decide_or]
    congr 1
    exact decide_eq_decide.mpr List.mem_cons.symm
theorem tb_bsN (xs : List Nat) (i : Nat) : (bsN xs).testBit i = decide (i ∈ xs) := by
  unfold bsN
  rw [tb_fold, Nat.zero_testBit, Bool.false_or]
/-- the bits of a number -/
def szN (n : Nat) : Nat := if n = 0 then 0 else n.log2 + 1
def plc (n : Nat) : List Nat := (List.range (szN n)).filter fun k => n.testBit k
theorem lt_szN {n k : Nat} (h : n.testBit k = true) : k < szN n := by
  unfold szN
  by_cases e : n = 0
  · subst e; simp at h
  · rw [if_neg e]
    have h1 : 2 ^ k ≤ n := Nat.ge_two_pow_of_testBit h
    have := (Nat.le_log2 e).mpr h1
    omega
theorem mem_plc {n k : Nat} : k ∈ plc n ↔ n.testBit k = true := by
  unfold plc
  rw [List.mem_filter, List.mem_range]
  exact ⟨fun h => h.2, fun h => ⟨lt_szN h, h⟩⟩
theorem asc_plc (n : Nat) : Asc (plc n) := asc_filter (asc_range _)
theorem plc_bsN {xs : List Nat} (h : Asc xs) : plc (bsN xs) = xs := asc_ext (asc_plc _) h fun k => by rw [mem_plc, tb_bsN, decide_eq_true_eq]
theorem szN_le {n m : Nat} (h : ∀ k, n.testBit k = true → k < m) : szN n ≤ m := by
  unfold szN
  by_cases e : n = 0
  · rw [if_pos e]; omega
  · rw [if_neg e]
    have : n.testBit n.log2 = true := by
      have h1 := Nat.log2_self_le e
      have h2 := @Nat.lt_log2_self n
      rw [Nat.testBit_eq_decide_div_mod_eq]
      have h3 : n / 2 ^ n.log2 = 1 := by
        have a : 1 ≤ n / 2 ^ n.log2 := (Nat.le_div_iff_mul_le (Nat.two_pow_pos _)).mpr (by omega)
        have b : n / 2 ^ n.log2 < 2 := (Nat.div_lt_iff_lt_mul (Nat.two_pow_pos _)).mpr (by rw [Nat.pow_succ] at h2; omega)
        omega
      rw [h3]; rfl
    have := h _ this
    omega
/-- m without the bits of n -/
def anN (m n : Nat) : Nat := m ^^^ (m &&& n)
theorem tb_anN (m n k : Nat) : (anN m n).testBit k = (m.testBit k && !n.testBit k) := by
  unfold anN
  rw [Nat.testBit_xor, Nat.testBit_and]
  cases m.testBit k <;> cases n.testBit k <;> rfl
theorem anN_sub (m n : Nat) : m = (m &&& n) + anN m n := by
  have h := nat_or_add_and (m &&& n) (anN m n)
  have e1 : (m &&& n) ||| anN m n = m := Nat.eq_of_testBit_eq fun k => by
    rw [Nat.testBit_or, tb_anN, Nat.testBit_and]
    cases m.testBit k <;> cases n.testBit k <;> rfl
  have e2 : (m &&& n) &&& anN m n = 0 := Nat.eq_of_testBit_eq fun k => by
    rw [Nat.testBit_and, tb_anN, Nat.testBit_and, Nat.zero_testBit]
    cases m.testBit k <;> cases n.testBit k <;> rfl
  rw [e1, e2] at h
  exact h
theorem b_and (m n : Nat) : Builtin.bitAnd (m : Int) (n : Int) = ((m &&& n : Nat) : Int) := by
  rw [bitAnd_pp (by omega) (by omega), Int.toNat_natCast, Int.toNat_natCast]
theorem b_andNot (m n : Nat) : Builtin.bitAnd (m : Int) (Builtin.bitNot (n : Int)) = ((anN m n : Nat) : Int) := by
  rw [bitAnd_not, b_and]
  have := anN_sub m n
  omega
theorem b_or (m n : Nat) : Builtin.bitOr (m : Int) (n : Int) = ((m ||| n : Nat) : Int) := by
  rw [bitOr_and, b_and]
  have := nat_or_add_and m n
  omega
theorem anN_zero {m n : Nat} : anN m n = 0 ↔ ∀ k, m.testBit k = true → n.testBit k = true := by
  constructor
  · intro h k hk
    have := tb_anN m n k
    rw [h, Nat.zero_testBit, hk] at this
    cases e : n.testBit k with
    | true => rfl
    | false => rw [e] at this; cases this
  · intro h
    refine Nat.eq_of_testBit_eq fun k => ?_
    rw [tb_anN, Nat.zero_testBit]
    cases e : m.testBit k with
    | true => rw [h k e]; rfl
    | false => rfl
theorem and_zero {m n : Nat} : m &&& n = 0 ↔ ∀ k, m.testBit k = true → n.testBit k = false := by
  constructor
  · intro h k hk
    have := Nat.testBit_and m n k
    rw [h, Nat.zero_testBit, hk, Bool.true_and] at this
    exact this.symm
  · intro h
    refine Nat.eq_of_testBit_eq fun k => ?_
    rw [Nat.testBit_and, Nat.zero_testBit]
    cases e : m.testBit k with
    | true => rw [h k e]; rfl
    | false => rfl
theorem b_bits (n : Nat) : Builtin.Int.intBits (n : Int) = szN n := by
  unfold Builtin.Int.intBits szN
  by_cases h : n = 0
  · subst h; rfl
  · rw [if_neg h, if_neg (by simpa using h)]; rfl
theorem b_shl (k : Nat) (h : k ≤ 1000000) : shlD (.int 1) (.int (k : Int)) = some (nD (2 ^ k)) := by
  show (if decide (0 ≤ (k : Int) ∧ (k : Int) ≤ 1000000 ∧ (1 : Int).natAbs < 2 ^ 64) = true then some (PyData.int (1 * 2 ^ ((k : Int)).toNat)) else none) = _
  rw [if_pos (decide_eq_true ⟨by omega, by omega, by decide⟩), Int.toNat_natCast, Int.one_mul]
  rw [nD, Int.natCast_pow]; rfl
theorem b_shr (n k : Nat) : shrD (.int (n : Int)) (.int (k : Int)) = some (nD (n / 2 ^ k)) := by
  show (if decide (0 ≤ (k : Int)) = true then some (PyData.int ((n : Int) / 2 ^ ((k : Int)).toNat)) else none) = _
  rw [if_pos (decide_eq_true (by omega)), Int.toNat_natCast, nD, Int.natCast_ediv, Int.natCast_pow]; rfl
theorem b_one (n k : Nat) : Builtin.bitAnd ((n / 2 ^ k : Nat) : Int) 1 = if n.testBit k = true then 1 else 0 := by
  rw [bitAnd_m1, Nat.testBit_eq_decide_div_mod_eq]
  rw [show ((n / 2 ^ k : Nat) : Int) % 2 = ((n / 2 ^ k % 2 : Nat) : Int) from (Int.natCast_emod _ _).symm]
  have : n / 2 ^ k % 2 = 0 ∨ n / 2 ^ k % 2 = 1 := by omega
  rcases this with h | h <;> (rw [h]; rfl)
end Dl

set_option Elab.async false
set_option linter.all false
set_option maxRecDepth 100000
set_option maxHeartbeats 2000000
namespace Dl
open PySem PySem.Spec PyProof.Rows L2
/-! ### lists that are surely of a kind (existence) -/
def OutOk {α β : Type} (o : Out α β) (P : α → Prop) : Prop := ∃ a, o = .nx a ∧ P a
theorem out_bind {α β γ : Type} {r : Option α} {k : α → Out γ β} {P : α → Prop} {Q : γ → Prop} (h : Ok r P) (g : ∀ a, P a → OutOk (k a) Q) : OutOk (Out.bind (toO r) k) Q := by
  obtain ⟨a, e, p⟩ := h; subst e; exact g a p
theorem out_seq {α β γ : Type} {o : Out α β} {k : α → Out γ β} {P : α → Prop} {Q : γ → Prop} (h : OutOk o P) (g : ∀ a, P a → OutOk (k a) Q) : OutOk (Out.bind o k) Q := by
  obtain ⟨a, e, p⟩ := h; subst e; exact g a p
/-- a body run by steps, the answer of a kind -/
theorem rn_step {α β γ : Type} {r : Option α} {k : α → Out γ β} {P : α → Prop} {Q : D → Prop} (h : Ok r P) (g : ∀ a, P a → Ok (Out.run (k a)) Q) : Ok (Out.run (Out.bind (toO r) k)) Q := by
  obtain ⟨a, e, p⟩ := h; subst e; exact g a p
theorem rn_ret {α β : Type} {r : Option D} {Q : D → Prop} (h : Ok r Q) : Ok (Out.run (toR r : Out α β)) Q := by
  obtain ⟨a, e, p⟩ := h; subst e; exact ⟨a, rfl, p⟩
theorem lcD_all {P Q : D → Prop} {f : D → Option D} (h : ∀ x, P x → Ok (f x) Q) : ∀ ds : List D, (∀ d ∈ ds, P d) → Ok (lcD (fun _ => some true) f ds) (fun es => es.length = ds.length ∧ ∀ d ∈ es, Q d)
  | [], _ => ⟨[], rfl, rfl, fun _ h => by cases h⟩
  | x :: xs, hp => by
    obtain ⟨y, e, q⟩ := h x (hp x (by simp))
    obtain ⟨ys, e2, l, q2⟩ := lcD_all h xs fun d hd => hp d (by simp [hd])
    refine ⟨y :: ys, ?_, by simp [l], fun d hd => ?_⟩
    · unfold lcD; rw [e, e2]; rfl
    · rcases List.mem_cons.mp hd with rfl | hd
      · exact q
      · exact q2 d hd
theorem fits {n : Nat} (h : n ≤ 1000000) : n ≤ sizeLine := Nat.le_trans h million_le
theorem lc_all {P Q : D → Prop} {f : D → Option D} {n : Nat} {ds : List D} (hp : AllOf P n ds) (hn : n ≤ 1000000) (h : ∀ x, P x → Ok (f x) Q) : Ok (newO (lcZ (fun _ => some true) f ds)) (fun d => ∃ zs, d = .list zs ∧ AllOf Q n zs) := by
  obtain ⟨es, e2, l2, q⟩ := lcD_all h ds hp.2
  have e : lcZ (fun _ => some true) f ds = some es := by
    unfold lcZ
    rw [if_pos (fits (by rw [hp.1]; exact hn)), e2]
  rw [e]
  exact ⟨_, rfl, es, rfl, l2.trans hp.1, q⟩
theorem lc_rng {b : Nat} {f : D → Option D} {Q : D → Prop} (hb : b ≤ 1000000) (h : ∀ j : Nat, j < b → Ok (f (.int (0 + j))) Q) : Ok (newO (Option.bind (Option.bind (consO (some (.int b)) (some [])) rng1D) (lcZ (fun _ => some true) f))) (fun d => ∃ zs, d = .list zs ∧ AllOf Q b zs) := by
  show Ok (newO (Option.bind (rng1D [.int b]) _)) _
  rw [rng1D_is hb]
  exact lc_all (P := fun d => ∃ j : Nat, j < b ∧ d = .int (0 + j)) ⟨rngD_len, fun d hd => by
    obtain ⟨k, hk⟩ := List.mem_iff_getElem?.mp hd
    obtain ⟨hl, e⟩ := rngD_get hk
    exact ⟨k, hl, e⟩⟩ hb fun x ⟨j, hj, e⟩ => by subst e; exact h j hj
theorem as_map {α : Type} {f : α → D} {R : α → Prop} : ∀ {zs : List D}, (∀ d ∈ zs, ∃ a, d = f a ∧ R a) → ∃ as : List α, zs = as.map f ∧ ∀ a ∈ as, R a
  | [], _ => ⟨[], rfl, fun _ h => by cases h⟩
  | z :: zs, h => by
    obtain ⟨a, e, r⟩ := h z (by simp)
    obtain ⟨as, e2, r2⟩ := as_map (zs := zs) fun d hd => h d (by simp [hd])
    refine ⟨a :: as, by rw [e, e2]; rfl, fun x hx => ?_⟩
    rcases List.mem_cons.mp hx with rfl | hx
    · exact r
    · exact r2 x hx
theorem ints_map : ∀ ns : List Int, intsD (ns.map PyData.int) = some ns
  | [] => rfl
  | n :: ns => by
    show (intsD (ns.map PyData.int)).map (n :: ·) = _
    rw [ints_map ns]; rfl
theorem ints_nL (ns : List Nat) : intsD (nL ns) = some (ns.map fun (n : Nat) => (n : Int)) := by
  have := ints_map (ns.map fun (n : Nat) => (n : Int))
  rwa [List.map_map] at this
theorem sum_cast : ∀ ns : List Nat, (ns.map fun (n : Nat) => (n : Int)).sum = ((ns.sum : Nat) : Int)
  | [] => rfl
  | n :: ns => by rw [List.map_cons, List.sum_cons, List.sum_cons, sum_cast ns]; omega
theorem sum_nL (ns : List Nat) : sumD [.list (nL ns)] = some (nD ns.sum) := by
  show (intsD (nL ns)).map _ = _
  rw [ints_nL]
  exact congrArg some (congrArg PyData.int (sum_cast ns))
/-- data of naturals -/
theorem nats_of {zs : List D} {n : Nat} {hi : Int} (h : AllOf (IntIn 0 hi) n zs) : ∃ ns : List Nat, zs = nL ns ∧ ns.length = n ∧ ∀ v ∈ ns, (v : Int) ≤ hi := by
  obtain ⟨ns, e, hn⟩ := as_map (f := nD) (R := fun v => (v : Int) ≤ hi) (zs := zs) fun d hd => by
    obtain ⟨i, e, a, b⟩ := h.2 d hd
    exact ⟨i.toNat, by rw [e]; exact congrArg PyData.int (by omega), by omega⟩
  exact ⟨ns, e, by rw [← h.1, e, List.length_map], hn⟩
/-! ### games -/
inductive Pl where
  | draw (m : Nat) (bs : List ((Nat × Nat) × Nat))
  | side (m : Nat) (o : Bool) (ts : List Nat)
deriving DecidableEq
def kS (o : Bool) : Str := if o = true then "ours" else "theirs"
def frD (c : Nat × Nat) : D := .tuple [nD c.1, nD c.2]
def brD (b : (Nat × Nat) × Nat) : D := .tuple [frD b.1, nD b.2]
def Pl.mr : Pl → Nat
  | .draw m _ => m
  | .side m _ _ => m
def Pl.tg : Pl → List Nat
  | .draw _ bs => bs.map (·.2)
  | .side _ _ ts => ts
def Pl.kd : Pl → Str
  | .draw _ _ => "draw"
  | .side _ o _ => kS o
def Pl.dr : Pl → Bool
  | .draw _ _ => true
  | .side _ _ _ => false
/-- the list of a place -/
def Pl.li : Pl → List D
  | .draw _ bs => bs.map brD
  | .side _ _ ts => nL ts
def plD (p : Pl) : D := .tuple [nD p.mr, .str p.kd, .list p.li]
def gD (g : List Pl) : D := .list (g.map plD)
theorem kS_ne (o : Bool) : decide (kS o = ("draw" : Str)) = false := by cases o <;> decide
theorem kd_dr (p : Pl) : decide (p.kd = ("draw" : Str)) = p.dr := by
  cases p with
  | draw m bs => exact decide_eq_true rfl
  | side m o ts => exact kS_ne o
/-- a chance: in lowest terms, within 1 -/
def ChOk (c : Nat × Nat) : Prop := 1 ≤ c.1 ∧ c.1 ≤ c.2 ∧ c.2 < 1000 ∧ Nat.gcd c.1 c.2 = 1
structure PlOk (n top : Nat) (p : Pl) : Prop where
  mr : p.mr ≤ top
  ne : 1 ≤ p.tg.length
  le : p.tg.length ≤ 6
  tg : ∀ t ∈ p.tg, t < n
  ch : ∀ m bs, p = .draw m bs → ∀ b ∈ bs, ChOk b.1
structure GmOk (most top : Nat) (g : List Pl) : Prop where
  ne : 1 ≤ g.length
  le : g.length ≤ most
  pl : ∀ p ∈ g, PlOk g.length top p
theorem pl_at {g : List Pl} {k : Nat} (h : k < g.length) : ixD (gD g) (nD k) = some (plD g[k]) := ix_map h
theorem pl_0 (p : Pl) : ixD (plD p) (.int 0) = some (nD p.mr) := e_ix0
theorem pl_1 (p : Pl) : ixD (plD p) (.int 1) = some (.str p.kd) := e_ix1
theorem pl_2 (p : Pl) : ixD (plD p) (.int 2) = some (.list p.li) := e_ix2
theorem li_len (p : Pl) : p.li.length = p.tg.length := by
  cases p <;> simp [Pl.li, Pl.tg, nL]
/-! size of a game's repr -/
theorem sh_nD {n : Nat} (h : n < 1000000000) : Sh 0 0 (nD n) := sh_int (by omega) (by omega)
theorem ok_cps {z : String} (h : ((z : Str).cps.toList.all fun c => decide (c < 16 ^ 8)) = true) : ∀ c ∈ (z : Str).cps.toList, c < 16 ^ 8 := fun c hc => of_decide_eq_true (List.all_eq_true.mp h c hc)
theorem sh_kd (p : Pl) : Sh 6 0 (.str p.kd) := by
  cases p with
  | draw m bs => exact sh_str (z := "draw") (by decide) (ok_cps (by decide))
  | side m o ts =>
    cases o
    · exact sh_str (z := "theirs") (by decide) (ok_cps (by decide))
    · exact sh_str (z := "ours") (by decide) (ok_cps (by decide))
theorem sh_fr {c : Nat × Nat} (h : ChOk c) : Sh 2 1 (frD c) := by
  obtain ⟨h1, h2, h3, _⟩ := h
  exact sh_tup (w := 0) (p := 0) (n := 2) (fun d hd => by
    simp at hd
    rcases hd with rfl | rfl
    · exact sh_nD (by omega)
    · exact sh_nD (by omega)) (Nat.le_refl _)
theorem sh_pl {n top : Nat} {p : Pl} (h : PlOk n top p) (ht : top < 1000) (hn : n < 1000) : Sh 165 4 (plD p) := by
  have hm : Sh 54 3 (nD p.mr) := (sh_nD (by have := h.mr; omega)).mono (by omega) (by omega)
  have hk : Sh 54 3 (.str p.kd) := (sh_kd p).mono (by omega) (by omega)
  have hl : Sh 54 3 (.list p.li) := by
    refine (sh_list (w := 8) (p := 2) (n := 6) (fun d hd => ?_) (by rw [li_len]; exact h.le)).mono (by omega) (by omega)
    cases p with
    | draw m bs =>
      obtain ⟨b, hb, rfl⟩ := List.mem_map.mp hd
      have c := h.ch m bs rfl b hb
      refine (sh_tup (w := 2) (p := 1) (n := 2) (fun d hd => ?_) (Nat.le_refl _)).mono (by omega) (by omega)
      simp at hd
      rcases hd with rfl | rfl
      · exact sh_fr c
      · have := h.tg b.2 (by simp [Pl.tg]; exact ⟨_, _, hb⟩)
        exact (sh_nD (by omega)).mono (by omega) (by omega)
    | side m o ts =>
      obtain ⟨t, ht, rfl⟩ := List.mem_map.mp hd
      have := h.tg t ht
      exact (sh_nD (by omega)).mono (by omega) (by omega)
  refine (sh_tup (w := 54) (p := 3) (n := 3) (fun d hd => ?_) (Nat.le_refl _)).mono (by omega) (by omega)
  simp at hd
  rcases hd with rfl | rfl | rfl
  · exact hm
  · exact hk
  · exact hl
theorem sh_gm {most top : Nat} {g : List Pl} (h : GmOk most top g) (ht : top < 1000) (hn : most ≤ 24) : Sh 4000 5 (gD g) :=
  (sh_list (w := 165) (p := 4) (n := 24) (fun d hd => by
    obtain ⟨p, hp, rfl⟩ := List.mem_map.mp hd
    have := h.le
    exact sh_pl (h.pl p hp) ht (by omega)) (by rw [List.length_map]; have := h.le; omega)).mono (by omega) (by omega)
theorem repr_gm {most top : Nat} {g : List Pl} (h : GmOk most top g) (ht : top < 1000) (hn : most ≤ 24) : reprD [gD g] = some (.str (gD g).shown) := repr_ok (sh_gm h ht hn) rfl (by omega) (by omega)
/-! in, slices of lists of naturals -/
theorem atoms_nL (xs : List Nat) : (nL xs).all atom = true := by
  rw [List.all_eq_true]; intro d hd
  obtain ⟨x, _, rfl⟩ := List.mem_map.mp hd; rfl
theorem memA_nL (t : Nat) (xs : List Nat) : memA (nD t) (nL xs) = decide (t ∈ xs) := by
  unfold memA
  rw [Bool.eq_iff_iff, List.any_eq_true, decide_eq_true_eq]
  constructor
  · rintro ⟨d, hd, e⟩
    obtain ⟨x, hx, rfl⟩ := List.mem_map.mp hd
    have : (x : Int) = (t : Int) := by
      have e' : ((x : Int) == (t : Int)) = true := e
      simpa using e'
    have : x = t := by omega
    rw [← this]; exact hx
  · intro h
    exact ⟨nD t, List.mem_map.mpr ⟨t, h, rfl⟩, by show ((t : Int) == (t : Int)) = true; simp⟩
theorem in_nL (t : Nat) (xs : List Nat) : inD false (nD t) (.list (nL xs)) = some (.bool (decide (t ∈ xs))) := by
  show (if (atom (nD t) && (nL xs).all atom) = true then some (PyData.bool (memA (nD t) (nL xs))) else none) = _
  rw [atoms_nL, memA_nL]; rfl
theorem notin_nL (t : Nat) (xs : List Nat) : inD true (nD t) (.list (nL xs)) = some (.bool (!decide (t ∈ xs))) := by
  show (if (atom (nD t) && (nL xs).all atom) = true then some (PyData.bool (!memA (nD t) (nL xs))) else none) = _
  rw [atoms_nL, memA_nL]; rfl
theorem cut_map {α : Type} {f : α → D} {xs : List α} {a b : Nat} (ha : a ≤ b) (hb : b ≤ xs.length) : cutD (xs.map f) (some (a : Int)) (some (b : Int)) = ((xs.drop a).take (b - a)).map f := by
  unfold Dl.cutD
  rw [HT.sIx_nat, HT.sIx_nat, List.length_map, Nat.min_eq_left hb, Nat.min_eq_left (Nat.le_trans ha hb), ← List.map_drop, ← List.map_take]
theorem sl_map {α : Type} {f : α → D} {xs : List α} {a b : Nat} (ha : a ≤ b) (hb : b ≤ xs.length) : slD (.list (xs.map f)) (some (a : Int)) (some (b : Int)) = some (.list (((xs.drop a).take (b - a)).map f)) := by
  show some (PyData.list (cutD _ _ _)) = _
  rw [cut_map ha hb]
/-! equality of lists of naturals -/
theorem canLayAll_nL : ∀ ns : List Nat, PyData.canLayAll0 (nL ns) = true
  | [] => rfl
  | n :: ns => by
    show (PyData.canLay0 (nD n) && PyData.canLayAll0 (nL ns)) = true
    rw [canLayAll_nL ns]; rfl
theorem depthAll_nL : ∀ ns : List Nat, PyData.depthAll (nL ns) = 0
  | [] => rfl
  | n :: ns => by
    show max (PyData.depth (nD n)) (PyData.depthAll (nL ns)) = 0
    rw [depthAll_nL ns]; rfl
theorem shaped_nL (ns : List Nat) : SeqAt.shaped (.list (nL ns)) = true := by
  unfold SeqAt.shaped
  rw [PyData.canLay0, canLayAll_nL, PyData.depth, depthAll_nL]; rfl
theorem eqvAll_nL : ∀ xs ys : List Nat, PyData.eqvAll (nL xs) (nL ys) = decide (xs = ys)
  | [], [] => rfl
  | [], _ :: _ => rfl
  | _ :: _, [] => rfl
  | x :: xs, y :: ys => by
    show PyData.eqvAll (nD x :: nL xs) (nD y :: nL ys) = _
    rw [PyData.eqvAll, eqvAll_nL xs ys]
    show ((x : Int) == (y : Int) && _) = _
    by_cases h : x = y
    · subst h; simp
    · have : ¬ (x : Int) = (y : Int) := by omega
      simp [h, this]
theorem eqX_nL (xs ys : List Nat) : eqX (.list (nL xs)) (.list (nL ys)) = some (.bool (decide (xs = ys))) := by
  rw [eqX_list (shaped_nL xs) (shaped_nL ys), PyData.eqv, eqvAll_nL]
theorem neX_nL (xs ys : List Nat) : neX (.list (nL xs)) (.list (nL ys)) = some (.bool (!decide (xs = ys))) := by
  show neD _ _ = _
  unfold neD
  rw [if_pos ⟨shaped_nL xs, shaped_nL ys⟩, PyData.eqv, eqvAll_nL]
end Dl

set_option Elab.async false
set_option linter.all false
set_option maxRecDepth 100000
set_option maxHeartbeats 2000000
namespace Dl
open PySem PySem.Spec PyProof.Rows L2
/-! ### exceptions: raised, let out of a def, caught -/
abbrev Xd := Str × List D
/-- what a def of exceptions answers -/
inductive Rs where
  | ok (d : D)
  | xc (x : Xd)
/-- an exception's class and dict tell x -/
def XR (K : PySem.W.Frag) (mg : Str → Option Value) (FN : Str → List Str) (G : Hp) (cls : Value) (d : Option Addr) (x : Xd) : Prop :=
  ∃ C, mg x.1 = some (.ref C) ∧ cls = .ref C ∧ ((d = none ∧ x.2 = []) ∨ ∃ dd vs, d = some dd ∧ G dd = some (.xd ((FN x.1).zip vs)) ∧ DpAll K G vs x.2 ∧ x.2 ≠ [])
theorem XR.mono {K : PySem.W.Frag} {mg : Str → Option Value} {FN : Str → List Str} {G G' : Hp} {cls : Value} {d : Option Addr} {x : Xd} (g : Same G G') (h : XR K mg FN G cls d x) : XR K mg FN G' cls d x := by
  obtain ⟨C, h1, h2, h3 | ⟨dd, vs, h3, h4, h5, h6⟩⟩ := h
  · exact ⟨C, h1, h2, .inl h3⟩
  · exact ⟨C, h1, h2, .inr ⟨dd, vs, h3, g _ _ h4, dpa_mono g _ _ h5, h6⟩⟩
/-- the way out W, of the exceptions that XR tells, with the slots xe -/
def Md.xs (K : PySem.W.Frag) (mg : Str → Option Value) (FN : Str → List Str) (R : RR) (W : WX) (xe : En) : Md := ⟨R, fun G _ cls d x => XR K mg FN G cls d x, W, xe⟩
/-- what a def promises that may raise -/
def spX (K : PySem.W.Frag) (mg : Str → Option Value) (FN : Str → List Str) (m : List D → Option Rs) : Sp := fun vs H Q E => ∃ (G : Hp) (ds : List D) (r : Rs), Same G H ∧ DpAll K G vs ds ∧ m ds = some r ∧
  (∀ d, r = .ok d → ∀ v G' H', Ext G H G' H' → Dp K G' v d → Q v H') ∧ ∀ x, r = .xc x → ∀ cls dd G' H', Ext G H G' H' → XR K mg FN G' cls dd x → E cls dd H'
def Out.runX {α β : Type} (o : Out α β) : Option Rs := match o with
  | .nx _ => some (.ok .none)
  | .rt d => some (.ok d)
  | .xc x => some (.xc x)
  | _ => none
/-- a def that may raise, by its body -/
theorem okN {P : Program} {w : World} {K : PySem.W.Frag} {mg : Str → Option Value} {base : Heap} {x qual : Str} {st : Stmt} {f : Addr} {fd : FuncData} {N ps : List Str} {k : Nat} {sp : Sp} (F : Fun K x qual st f fd) (S : FnScope N ps (defScope st)) (len : ∀ vs H Q E, sp vs H Q E → vs.length = ps.length)
    (hbody : ∀ (cdv : Value) (A : Around) (outer : List Env) (s : Shared) (H : Hp) (vs : List V) (Q : VK) (E : XK), Room k (A.deeper (envOfC qual (defScope st) s.heap.objs.size f cdv)) → sp vs H Q E → ∃ t, PSs (cxOf (L2N.CX P w) P w K mg base N qual (defScope st) f cdv A outer s H E) (defBody st) t ∧ t { nx := fun _ H' => Q .non H', rt := Q } (start N vs) H) :
    FnOk P w K mg base (L2N.CX P w) (k + 1) f fd ps sp := by
  obtain ⟨_, _, _, _, _, _, cdv, _, _, rfl, lk, hcd⟩ := F.ex
  exact fn_of lk hcd S len fun A o s H vs Q E hr hs => hbody cdv A o s H vs Q E hr hs
theorem takes0N {X : Cx} : L2N.Takes X (fun _ _ _ _ => False) := fun u s' ⟨_, _, _, _, _, _, _, _, _, _, _, _, _, _, _, _, w⟩ => w.elim
/-- the def that the module calls x does what m says, or raises what m says -/
structure DfX (P : Program) (w : World) (K : PySem.W.Frag) (mg : Str → Option Value) (FN : Str → List Str) (base : Heap) (k : Nat) (x : Str) (ps : List Str) (m : List D → Option Rs) : Prop where
  ex : ∃ f fd, mg x = some (.ref f) ∧ PySem.W.keepIn K (.ref f) = true ∧ Binds K fd ps [] ∧ FnOk P w K mg base (L2N.CX P w) k f fd ps (spX K mg FN m)
section
variable {P : Program} {w : World} {K : PySem.W.Frag} {mg : Str → Option Value} {FN : Str → List Str} {base : Heap} {x qual : Str} {st : Stmt} {f : Addr} {fd : FuncData} {N ps : List Str} {k : Nat}
theorem dfX_mk {m : List D → Option Rs} (xe : En) (F : Fun K x qual st f fd) (S : FnScope N ps (defScope st)) (hm : mg x = some (.ref f)) (hb : Binds K fd ps []) (hl : ∀ ds d, m ds = some d → ds.length = ps.length) (hN : ps.length ≤ N.length)
    (body : ∀ (cdv : Value) (A : Around) (outer : List Env) (s : Shared) (H : Hp) (E : XK), Room k (A.deeper (envOfC qual (defScope st) s.heap.objs.size f cdv)) →
      ∃ t, PSs (cxOf (L2N.CX P w) P w K mg base N qual (defScope st) f cdv A outer s H E) (defBody st) t ∧
        ∀ ds r, m ds = some r → ∃ (β : Type) (eb : β → En) (α : Type) (en : α → En) (o : Out α β), DS K (.xs K mg FN (RtS K) (fun cls d _ H => E cls d H) xe) (env0 N.length ds) t en eb o ∧ o.runX = some r) : DfX P w K mg FN base (k + 1) x ps m := by
  refine ⟨f, fd, hm, F.kp, hb, ?_⟩
  refine okN F S (fun vs H Q E h => ?_) fun cdv A outer s H vs Q E hr h => ?_
  · obtain ⟨G, ds, d, _, ha, e, _⟩ := h
    rw [dpa_len ha]; exact hl ds d e
  · obtain ⟨t, h1, h2⟩ := body cdv A outer s H E hr
    refine ⟨t, h1, ?_⟩
    obtain ⟨G, ds, r, g, ha, e, q1, q2⟩ := h
    obtain ⟨β, eb, α, en, o, hd, ho⟩ := h2 ds r e
    refine hd _ G H G G H _ (start_env g ha (by rw [hl ds r e]; exact hN)) ?_
    cases o with
    | nx a => cases ho; exact fun σ G' H' s => q1 _ rfl .non G' H' s.ext .non
    | rt d' => cases ho; exact fun v G' H' r => q1 _ rfl v G' H' r.1 r.2
    | bk b => cases ho
    | ct b => cases ho
    | no => cases ho
    | xc x => cases ho; exact fun σ G' H' cls dd s r => q2 _ rfl cls dd G' H' s.ext r
end
/-! #### expressions that may raise -/
def DX (K : PySem.W.Frag) (M : Md) (env : En) (t : TE) (r : Option Rs) : Prop := ∀ σ (G0 H0 B G H : Hp) (Q : VK) rs, SS K env σ G0 H0 B G H → r = some rs →
  (∀ d, rs = .ok d → ∀ v G' H', Ext G H G' H' → Dp K G' v d → Q v H') → (∀ x, rs = .xc x → ∀ G' H' cls dd, SS K M.xe σ G0 H0 B G' H' → M.xr G' H' cls dd x → M.W cls dd σ H') → t σ H Q
section
variable {K : PySem.W.Frag} {mg : Str → Option Value} {FN : Str → List Str} {R : RR} {W : WX} {xe env : En} {tA : TA} {rA : Option (List D)} {te : TE} {r : Option Rs} {α β : Type} {en : α → En} {eb : β → En}
theorem dx_call {m : List D → Option Rs} (h : DA K (noOw env) tA rA) (hx : Le xe env) : DX K (.xs K mg FN R W xe) env (tCallS (spX K mg FN m) (WE W) tA) (rA.bind m) := fun σ G0 H0 B G H Q rs s e q1 q2 => by
  obtain ⟨ds, e1, e2⟩ := bind_some e
  refine h σ G H _ ds s.shd s.ext.gh e1 fun vs G1 H1 E1 h1 => ?_
  refine ⟨G1, ds, rs, E1.gh, h1, e2, fun d hd v G' H' E2 hv => q1 d hd v G' H' (E1.trans E2) hv, fun x hxx cls dd G' H' E2 hr => ?_⟩
  obtain ⟨G2, s2, g2⟩ := (s.ext' (E1.trans E2)).weak hx
  exact q2 x hxx G2 H' cls dd s2 (hr.mono g2)
def outU {β : Type} (r : Option Rs) : Out Unit β := match r with
  | some (.ok _) => .nx ()
  | some (.xc x) => .xc x
  | none => .no
def outD {β : Type} (r : Option Rs) : Out D β := match r with
  | some (.ok d) => .nx d
  | some (.xc x) => .xc x
  | none => .no
def outR {α β : Type} (r : Option Rs) : Out α β := match r with
  | some (.ok d) => .rt d
  | some (.xc x) => .xc x
  | none => .no
variable {M : Md}
theorem ds_dropX (h : DX K M env te r) : DS K M env (tDrop te) (fun _ : Unit => env) eb (outU r) := fun σ G0 H0 B G H T s q => by
  cases r with
  | none => exact q.elim
  | some rs =>
    cases rs with
    | ok d => exact h σ G0 H0 B G H _ _ s rfl (fun d' e v G' H' E _ => q σ G' H' (s.ext' E)) fun x e => by cases e
    | xc x => exact h σ G0 H0 B G H _ _ s rfl (fun d' e => by cases e) fun x' e G' H' cls dd s' r' => by cases e; exact q σ G' H' cls dd s' r'
theorem ds_setX {i : Nat} (h : DX K M env te r) : DS K M env (tAsg te (gName i)) (fun d => env.set i (.sh d)) eb (outD r) := fun σ G0 H0 B G H T s q => by
  cases r with
  | none => exact q.elim
  | some rs =>
    cases rs with
    | ok d => exact h σ G0 H0 B G H _ _ s rfl (fun d' e v G' H' E hv => by cases e; exact q _ G' H' ((s.ext' E).set i hv)) fun x e => by cases e
    | xc x => exact h σ G0 H0 B G H _ _ s rfl (fun d' e => by cases e) fun x' e G' H' cls dd s' r' => by cases e; exact q σ G' H' cls dd s' r'
theorem ds_retX (h : DX K M env te r) (hM : M.R = RtS K := by rfl) : DS K M env (tRet te) en eb (outR r : Out α β) := fun σ G0 H0 B G H T s q => by
  cases r with
  | none => exact q.elim
  | some rs =>
    cases rs with
    | ok d => exact h σ G0 H0 B G H _ _ s rfl (fun d' e v G' H' E hv => by cases e; exact q v G' H' (by rw [hM]; exact ⟨s.ext.trans E, hv⟩)) fun x e => by cases e
    | xc x => exact h σ G0 H0 B G H _ _ s rfl (fun d' e => by cases e) fun x' e G' H' cls dd s' r' => by cases e; exact q σ G' H' cls dd s' r'
/-- if f(..) is None -/
def ifNX {α β : Type} (r : Option Rs) (o p : Out α β) : Out α β := match r with
  | some (.ok .none) => o
  | some (.ok _) => p
  | some (.xc x) => .xc x
  | none => .no
theorem ds_ifNX {t u : TS} {o p : Out α β} (h : DX K M env te r) (h1 : DS K M env t en eb o) (h2 : DS K M env u en eb p) :
    DS K M env (tIfS (tTest (tOp (fun x y H Q => y = .non ∧ Q (.bl (decide (x = .non))) H) te (tC .non))) t u) en eb (ifNX r o p) := fun σ G0 H0 B G H T s q => by
  cases r with
  | none => exact q.elim
  | some rs =>
    cases rs with
    | xc x => exact h σ G0 H0 B G H _ _ s rfl (fun d' e => by cases e) fun x' e G' H' cls dd s' r' => by cases e; exact q σ G' H' cls dd s' r'
    | ok d =>
      refine h σ G0 H0 B G H _ _ s rfl (fun d' e v G' H' E hv => ?_) fun x e => by cases e
      cases e
      refine ⟨rfl, _, rfl, ?_⟩
      have s' := s.ext' E
      cases d with
      | none => cases hv; exact h1 σ G0 H0 B G' H' T s' q
      | bool b => cases hv; exact h2 σ G0 H0 B G' H' T s' q
      | int b => cases hv; exact h2 σ G0 H0 B G' H' T s' q
      | str b => cases hv; exact h2 σ G0 H0 B G' H' T s' q
      | list b => cases hv; exact h2 σ G0 H0 B G' H' T s' q
      | tuple b => cases hv; exact h2 σ G0 H0 B G' H' T s' q
      | dict b => cases hv
/-! #### raise -/
def DM (K : PySem.W.Frag) (M : Md) (env : En) (t : L2.St → Hp → XK → Prop) (r : Option Xd) : Prop := ∀ σ (G H : Hp) (Q : XK) x, SE K env σ G → Same G H → r = some x → (∀ cls d G' H', Ext G H G' H' → M.xr G' H' cls d x → Q cls d H') → t σ H Q
theorem ds_raise {t : L2.St → Hp → XK → Prop} {rx : Option Xd} (h : DM K (.xs K mg FN R W xe) (noOw env) t rx) (hx : Le xe env) : DS K (.xs K mg FN R W xe) env (fun _ σ H => t σ H fun cls d H' => W cls d σ H') en eb ((match rx with | some x => .xc x | none => .no) : Out α β) := fun σ G0 H0 B G H T s q => by
  cases rx with
  | none => exact q.elim
  | some x =>
    refine h σ G H _ x s.shd s.ext.gh rfl fun cls d G' H' E hr => ?_
    obtain ⟨G2, s2, g2⟩ := (s.ext' E).weak hx
    exact q σ G2 H' cls d s2 (XR.mono g2 hr)
/-- a class without a field -/
theorem dm_own0 {C : Addr} {c : Str} (hC : mg c = some (.ref C)) : DM K (.xs K mg FN R W xe) env (fun _ H Q => Q (.ref C) none H) (some (c, [])) := fun σ G H Q x s g e q => by
  cases e
  exact q _ _ G H (Ext.refl g) ⟨C, hC, rfl, .inl ⟨rfl, rfl⟩⟩
/-- a raise that is never come to -/
theorem ds_raise0 {t : TS} : DS K M env t en eb (.no : Out α β) := fun σ G0 H0 B G H T s q => q.elim
end
section
variable {X : Cx} {C : Addr} {bmB : List Value} {B newId initId : String}
/-- X() of an own class without an __init__ -/
theorem pmk_own0 {x : Str} {p pos : Pos} (F : ExcBaseFacts B newId initId bmB) (q : PySem.W.excIn X.K C bmB newId = true) (gC : X.mg x = some (.ref C)) (kC : PySem.W.keepIn X.K (.ref C) = true) (r : Raises X (.ref C)) (hg : Gl X x)
    (hdb : (x == ("__debug__" : Str)) = false := by decide) : L2N.PMk X (.Call (.Name x p) [] [] pos) (fun _ H Q => Q (.ref C) none H) := by
  intro pins s σ H Q I h
  refine wpAny_Call_Name_kw (ld_glob I hg gC ?_ hdb)
  refine PySem.W.callWith_K0 I.kIn kC ?_
  show wpAny _ _ (call (.ref C) []) _ _ _
  obtain ⟨bm, N, nm, qn, bs, hdct, sn, sub, ab, col, dd, k0, k1, k2, k3, k5, mN, hC, hN, hni, T⟩ := exc_obj I.kIn q
  refine wpAny_call_exc_subT F T hC hN hni (fun h' e hm => ?_) (Nat.zero_le _)
  exact L2N.mk_of I hm r h (I.hok.gone hm.new)
/-- what the top has of an own error class -/
structure XCls (K : PySem.W.Frag) (mg : Str → Option Value) (c : Str) (C : Addr) : Prop where
  g : mg c = some (.ref C)
  q : PySem.W.excIn K C [.type "ValueError", .type "Exception", .type "BaseException", .type "object"] "ValueError.__new__" = true
  k : PySem.W.keepIn K (.ref C) = true
  s : PySem.W.subIn K (.ref C) (.type "BaseException") = some true
  t : PySem.W.typeIn K (.ref C) = some (.type "type")
theorem kRaise0 {W : WX} {x : Str} {p pos pos2 : Pos} {K : PySem.W.Frag} {mg : Str → Option Value} (c : XCls K mg x C) (tk : L2N.Takes X W) (hg : Gl X x) (h3 : X.K = K := by rfl) (h4 : X.mg = mg := by rfl) (hc : X.calm = true := by rfl) (hdb : (x == ("__debug__" : Str)) = false := by decide) :
    PS X (.Raise (some (.Call (.Name x p) [] [] pos)) none pos2) (fun _ σ H => (fun _ H Q => Q (.ref C) none H : L2.St → Hp → XK → Prop) σ H fun cls d H' => W cls d σ H') := by
  subst h3; subst h4
  exact L2N.ps_raise hc tk (pmk_own0 PySem.F.excBase_ValueError c.q c.g c.k (raises_own c.s c.t) hg hdb)
end
end Dl

set_option Elab.async false
set_option linter.all false
set_option maxRecDepth 100000
set_option maxHeartbeats 2000000
namespace Dl
open PySem PySem.Spec PyProof.Rows L2
/-! ### try .. except X as e -/
/-- the caught exception -/
def Sl.xn (K : PySem.W.Frag) (mg : Str → Option Value) (FN : Str → List Str) (a : Addr) (cls : Value) (d : Option Addr) (x : Xd) : Sl := .plain (fun K' G o => K' = K → o = some (.ref a) ∧ XR K mg FN G cls d x) fun g h e => ⟨(h e).1, (h e).2.mono g⟩
section
variable {K : PySem.W.Frag} {mg : Str → Option Value} {FN : Str → List Str} {R : RR} {env env' xe : En} {te tc : TE} {α β : Type} {en : α → En} {eb : β → En} {o : Out α β}
theorem SS.setNone {σ : L2.St} {G0 H0 B G H : Hp} (s : SS K env σ G0 H0 B G H) (i : Nat) (h : env[i]? = some .un ∨ env.length ≤ i) : SS K env (σ.set i none) G0 H0 B G H := by
  have e : env.set i .un = env := by
    rcases h with h | h
    · apply List.ext_getElem?
      intro j
      by_cases c : i = j
      · subst c
        rw [h]
        have : i < env.length := by
          rcases Nat.lt_or_ge i env.length with z | z
          · exact z
          · rw [List.getElem?_eq_none z] at h; cases h
        rw [List.getElem?_set_self this]
      · rw [List.getElem?_set_ne c]
    · exact List.set_eq_of_length_le h
  have := s.put (Ext.refl s.ext.gh) (sl := .un) (o := none) (S := []) i ⟨rfl, trivial⟩ fun a ha => by cases ha
  rwa [e] at this
/-- what a caught exception's clause makes of the body's way out -/
def tryO {α β : Type} (o : Out α β) (ca : Str → Bool) (ho : Xd → Out α β) : Out α β := match o with
  | .xc x => if ca x.1 = true then ho x else .no
  | o => o
/-- try: .. except X as e: .., in a def that lets none out -/
theorem ds_try {i : Nat} {c : Value} {tb : WX → TS} {ts : Addr → Value → Option Addr → TS} {ca : Str → Bool} {ho : Xd → Out α β} {W0 : WX} {M : Md}
    (hb : ∀ W, DS K (.xs K mg FN M.R W xe) env (tb W) en eb o)
    (hs : ∀ a cls d x, DS K M (xe.set i (.xn K mg FN a cls d x)) (ts a cls d) en eb (ho x))
    (hen : ∀ a, (en a)[i]? = some .un ∨ (en a).length ≤ i) (heb : ∀ b, (eb b)[i]? = some .un ∨ (eb b).length ≤ i)
    (hc : ∀ G cls d x, XR K mg FN G cls d x → ca x.1 = true → PySem.W.exmOne K cls c = some true) (hMx : M.xr = fun _ _ _ _ _ => True) :
    DS K M env (fun D σ H => tb (wAs K c i ts W0 D) D σ H) en eb (tryO o ca ho) := fun σ G0 H0 B G H T s q => by
  refine hb (wAs K c i ts W0 T) σ G0 H0 B G H T s ?_
  cases o with
  | nx a => exact q
  | rt d => exact q
  | bk b => exact q
  | ct b => exact q
  | no => exact q
  | xc x =>
    intro σ' G' H' cls d s' r'
    change Post K M en eb T G0 H0 B (if ca x.1 = true then ho x else .no) at q
    by_cases hca : ca x.1 = true
    · rw [if_pos hca] at q
      refine ⟨true, hc G' cls d x r' hca, fun _ a ha => ?_, fun z => by cases z⟩
      have s2 : SS K (xe.set i (.xn K mg FN a cls d x)) (σ'.set i (some (.ref a))) G0 H0 B G' H' :=
        s'.put (Ext.refl s'.ext.gh) (sl := .xn K mg FN a cls d x) (S := []) i ⟨rfl, fun _ => ⟨rfl, r'⟩⟩ fun b hb => by cases hb
      refine hs a cls d x _ G0 H0 B G' H' _ s2 ?_
      cases e : ho x with
      | nx b => rw [e] at q; exact fun σ6 G6 H6 s6 => q _ G6 H6 (s6.setNone i (hen b))
      | rt b => rw [e] at q; exact q
      | bk b => rw [e] at q; exact fun σ6 G6 H6 s6 => q _ G6 H6 (s6.setNone i (heb b))
      | ct b => rw [e] at q; exact fun σ6 G6 H6 s6 => q _ G6 H6 (s6.setNone i (heb b))
      | no => rw [e] at q; exact q
      | xc b => rw [e] at q; exact q
    · rw [if_neg hca] at q; exact q.elim
/-! #### isinstance of the caught one -/
def rIsX (K : PySem.W.Frag) (a : Addr) (cls : Value) (d : Option Addr) : List V → Hp → VK → Prop := fun xs H Q => ∃ D, cls = .ref D ∧ d = none ∧ ExcC K D ∧ rIsE K D a xs H Q
theorem kIsX {X : Cx} {a : Addr} {oe : Obj} {pn : List (Addr × Obj)} {cls : Value} {d : Option Addr} (K : PySem.W.Frag) (hz : Zc cls d oe) (hf : ∃ vs, oe.data = .fields vs) (h : X.K = K := by rfl) : CallR (X.suite a ((a, oe) :: pn)) (.builtin "isinstance") (rIsX K a cls d) := by
  subst h
  intro pins s σ H xs us Q I r ⟨D, e1, e2, C, hh⟩
  subst e1; subst e2
  exact call_isE C hz hf pins s σ H xs us Q I r hh
/-- the table: is an exception of the class D one of C -/
abbrev XTab := List (Str × Str × Bool)
def tabX (tab : XTab) (D C : Str) : Option Bool := (tab.find? fun t => decide (t.1 = D ∧ t.2.1 = C)).map (·.2.2)
theorem tabX_mem {tab : XTab} {D C : Str} {b : Bool} (h : tabX tab D C = some b) : (D, C, b) ∈ tab := by
  unfold tabX at h
  cases e : tab.find? fun t => decide (t.1 = D ∧ t.2.1 = C) with
  | none => rw [e] at h; cases h
  | some t =>
    rw [e] at h
    have h1 := List.find?_some e
    have h2 := List.mem_of_find?_eq_some e
    obtain ⟨a, c, b'⟩ := t
    have h3 := of_decide_eq_true h1
    obtain ⟨r1, r2⟩ := h3
    cases h
    simp only at r1 r2
    rw [← r1, ← r2]; exact h2
/-- the classes of the table -/
def XAll (K : PySem.W.Frag) (mg : Str → Option Value) (CV : Str → Value) : XTab → Prop
  | [] => True
  | t :: ts => (∃ f, mg t.1 = some (.ref f) ∧ ExcC K f ∧ PySem.W.kitOne K (.ref f) (CV t.2.1) = some t.2.2 ∧ (t.2.2 = true → t.2.1 ≠ "ValueError" → PySem.W.exmOne K (.ref f) (CV t.2.1) = some true)) ∧ XAll K mg CV ts
structure XTok (K : PySem.W.Frag) (mg : Str → Option Value) (tab : XTab) (CV : Str → Value) : Prop where
  all : XAll K mg CV tab
theorem XAll.get {K : PySem.W.Frag} {mg : Str → Option Value} {CV : Str → Value} : ∀ {tab : XTab} {t : Str × Str × Bool}, XAll K mg CV tab → t ∈ tab → ∃ f, mg t.1 = some (.ref f) ∧ ExcC K f ∧ PySem.W.kitOne K (.ref f) (CV t.2.1) = some t.2.2 ∧ (t.2.2 = true → t.2.1 ≠ "ValueError" → PySem.W.exmOne K (.ref f) (CV t.2.1) = some true)
  | _ :: _, _, h, .head _ => h.1
  | _ :: _, _, h, .tail _ m => XAll.get h.2 m
theorem XTok.ca {K : PySem.W.Frag} {mg : Str → Option Value} {FN : Str → List Str} {CV : Str → Value} {tab : XTab} {G : Hp} {cls : Value} {d : Option Addr} {x : Xd} {cv : Value} (T : XTok K mg tab CV) (C : Str) (r : XR K mg FN G cls d x) (h : tabX tab x.1 C = some true) (w : CV C = cv) (hne : C ≠ "ValueError" := by decide) : PySem.W.exmOne K cls cv = some true := by
  obtain ⟨f, k1, _, _, k4⟩ := T.all.get (tabX_mem h)
  obtain ⟨Cc, g1, g2, _⟩ := r
  have k1' : mg x.1 = some (.ref f) := k1
  rw [g1] at k1'; cases k1'
  rw [g2, ← w]
  exact k4 rfl hne
def isXO (tab : XTab) (x : Xd) (C : Str) : Option D := if x.2.isEmpty then (tabX tab x.1 C).map PyData.bool else none
theorem dv_isX {a : Addr} {cls : Value} {d : Option Addr} {x : Xd} {i : Nat} {tab : XTab} {CV : Str → Value} {C : Str} {y : V} (T : XTok K mg tab CV) (hy : ∀ u, RelV y u → u = CV C) (h : env[i]? = some (Sl.xn K mg FN a cls d x) := by rfl) :
    DV K env (tCB (rIsX K a cls d) (tCons (tVar i) (tCons (tC y) tNil))) (isXO tab x C) := fun σ G H Q r s g e q => by
  unfold isXO at e
  by_cases he : x.2.isEmpty = true
  · rw [if_pos he] at e
    obtain ⟨b, e1, e2⟩ := map_some e
    subst e2
    obtain ⟨o, h1, h2⟩ := s.at' i _ h
    obtain ⟨h3, Cc, g1, g2, g3⟩ := h2 rfl
    subst h3
    obtain ⟨f, k1, k2, k3, _⟩ := T.all.get (tabX_mem e1)
    have k1' : mg x.1 = some (.ref f) := k1
    rw [g1] at k1'; cases k1'
    refine ⟨_, h1, Cc, g2, ?_, k2, y, CV C, b, rfl, hy, k3, q _ G H (Ext.refl g) (.bl b)⟩
    rcases g3 with ⟨g3, _⟩ | ⟨_, _, _, _, _, g3⟩
    · exact g3
    · exact absurd (List.isEmpty_iff.mp he) g3
  · rw [if_neg he] at e; cases e
end
end Dl
namespace Dl
open PySem PySem.Spec PyProof.Rows L2
theorem kDfX {X : Cx} {k : Nat} {x : Str} {ps : List Str} {e : Expr} {es : List Expr} {t : TA} {p pos : Pos} {W : WX} {FN : Str → List Str} (K : PySem.W.Frag) {m : List D → Option Rs} {P : Program} {w : World} {mg : Str → Option Value} {base : Heap} (d : DfX P w K mg FN base k x ps m) (hr : Room k X.A) (hg : Gl X x) (tk : L2N.Takes X W) (ha : PA X (e :: es) t)
    (h1 : X.prog = P := by rfl) (h2 : X.w = w := by rfl) (h3 : X.K = K := by rfl) (h4 : X.mg = mg := by rfl) (h5 : X.base = base := by rfl) (hdb : (x == ("__debug__" : Str)) = false := by decide)
    (he : starEach (e :: es) X.env = (false, eval e X.env) :: starEach es X.env := by rfl) (hpl : (backTo pos (starEach es X.env)).any (·.1) = false := by rfl) :
    PE X (.Call (.Name x p) (e :: es) [] pos) (tCallS (spX K mg FN m) (WE W) t) := by
  subst h1; subst h2; subst h3; subst h4; subst h5
  obtain ⟨f, fd, g1, g2, g3, g4⟩ := d.ex
  exact pe_callS g4 hr hg g1 g2 g3 (fun σ => L2N.passAt tk σ) ha hdb he hpl
end Dl

set_option Elab.async false
set_option linter.all false
set_option maxRecDepth 100000
set_option maxHeartbeats 2000000
namespace Dl
open PySem PySem.Spec PyProof.Rows L2
/-! ### dicts of ints by ints -/
abbrev IM := List (Int × Int)
def kvI (m : IM) : List (Key × V) := m.map fun p => (.inl p.1, .int p.2)
def getI : IM → Int → Option Int
  | [], _ => none
  | p :: r, k => if p.1 = k then some p.2 else getI r k
def putI (m : IM) (k v : Int) : IM := if (m.any fun p => decide (p.1 = k)) = true then m.map (fun p => if p.1 = k then (p.1, v) else p) else m ++ [(k, v)]
def dD (m : IM) : D := .dict (m.map fun p => (.int p.1, .int p.2))
theorem inl_dec (i k : Int) : decide ((Sum.inl i : Key) = .inl k) = decide (i = k) := by
  by_cases h : i = k
  · subst h; simp
  · have : ¬ (Sum.inl i : Key) = .inl k := fun z => h (Sum.inl.inj z)
    simp [h, this]
theorem valV_kvI : ∀ (m : IM) (k : Int), valV (kvI m) (.inl k) = (getI m k).map V.int
  | [], k => rfl
  | p :: r, k => by
    unfold getI
    by_cases h : p.1 = k
    · rw [if_pos h]; exact valV_pos (p := ((.inl p.1 : Key), V.int p.2)) (by rw [h])
    · rw [if_neg h]
      rw [← valV_kvI r k]
      exact valV_neg (p := ((.inl p.1 : Key), V.int p.2)) fun z => h (Sum.inl.inj z)
theorem any_kvI : ∀ (m : IM) (k : Int), ((kvI m).any fun kv => decide (kv.1 = (.inl k : Key))) = m.any fun p => decide (p.1 = k)
  | [], k => rfl
  | p :: r, k => by
    show (decide ((Sum.inl p.1 : Key) = .inl k) || (kvI r).any fun kv => decide (kv.1 = (.inl k : Key))) = (decide (p.1 = k) || r.any fun p => decide (p.1 = k))
    rw [any_kvI r k, inl_dec]
theorem map_kvI (m : IM) (k v : Int) : ((kvI m).map fun kv => if kv.1 = (.inl k : Key) then (kv.1, V.int v) else kv) = kvI (m.map fun p => if p.1 = k then (p.1, v) else p) := by
  unfold kvI
  rw [List.map_map, List.map_map]
  refine List.map_congr_left fun p _ => ?_
  by_cases h : p.1 = k
  · have : ((Sum.inl p.1 : Key) = .inl k) := by rw [h]
    simp [this, h]
  · have : ¬ ((Sum.inl p.1 : Key) = .inl k) := fun z => h (Sum.inl.inj z)
    simp [this, h]
theorem putK_kvI (m : IM) (k v : Int) : putK (kvI m) (.inl k) (.int v) = kvI (putI m k v) := by
  unfold putK putI
  rw [any_kvI]
  by_cases h : (m.any fun p => decide (p.1 = k)) = true
  · rw [if_pos h, if_pos h]; exact map_kvI m k v
  · rw [if_neg h, if_neg h]; unfold kvI; rw [List.map_append]; rfl
theorem putI_len (m : IM) (k v : Int) : (putI m k v).length ≤ m.length + 1 := by
  unfold putI
  split
  · rw [List.length_map]; omega
  · rw [List.length_append]; simp
/-- a dict of its own -/
def Sl.od (m : IM) : Sl where
  sm := false
  v := fun K G o => ∃ a, o = some (.ref a) ∧ Rd G a (.dK (kvI m))
  p := fun K _ G H o S => ∃ a, o = some (.ref a) ∧ S = [a] ∧ H a = some (.dK (kvI m))
  vm := fun g ⟨a, e, h⟩ => ⟨a, e, rd_mono g h⟩
  pm := fun g hs _ ⟨a, e, es, hl⟩ => ⟨a, e, es, (hs a (by rw [es]; simp)).trans hl⟩
  pv := fun _ g ⟨a, e, es, hl⟩ => ⟨a, e, .inl hl⟩
  pe := fun h => by cases h
def odGet (m : IM) : D → Option D
  | .int k => (getI m k).map .int
  | _ => none
section
variable {K : PySem.W.Frag} {env : En} {ty : TE} {rk : Option D}
theorem dv_odget (i : Nat) {m : IM} (hk : DV K env ty rk) (h : env[i]? = some (Sl.od m) := by rfl) : DV K env (tDGet (tVar i) ty) (rk.bind (odGet m)) := fun σ G H Q d s g e q => by
  obtain ⟨y, ey, e⟩ := bind_some e
  obtain ⟨o, h1, a, rfl, h2⟩ := s.at' i _ h
  refine ⟨.ref a, h1, hk σ G H _ y s g ey fun w G1 H1 E1 hw => ?_⟩
  cases y with
  | int k =>
    cases hw
    obtain ⟨n, en, e⟩ := Option.map_eq_some_iff.mp (show (getI m k).map PyData.int = some d from e)
    subst e
    exact ⟨a, .int n, rfl, .inl ⟨kvI m, .inl k, rd_mono E1.gh (rd_mono E1.gg h2), rfl, by rw [valV_kvI, en]; rfl⟩, q _ G1 H1 E1 (.int n)⟩
  | _ => cases e
end
/-! #### {k: v for x in ..} -/
def asI : D → Option Int
  | .int i => some i
  | _ => none
theorem asI_some {d : D} {i : Int} (h : asI d = some i) : d = .int i := by
  cases d <;> first | (cases h; done) | (cases h; rfl)
def dcD (fk fv : D → Option D) : List D → IM → Option IM
  | [], m => some m
  | x :: xs, m => ((fk x).bind asI).bind fun k => ((fv x).bind asI).bind fun v => dcD fk fv xs (putI m k v)
def dcZ (fk fv : D → Option D) (xs : List D) : Option IM := if xs.length ≤ sizeLine then dcD fk fv xs [] else none
section
variable {K : PySem.W.Frag} {M : Md} {env : En} {α β : Type} {eb : β → En}
theorem ds_setDc {i j : Nat} {wi : TI} {tk tv : TE} {vs : List Nat} {rI : Option (List D)} {fk fv : D → Option D}
    (hi : DI K (noOw env) wi rI) (hk : ∀ x, DV K ((wipeE (noOw env) vs).set j (.sh x)) tk (fk x)) (hv : ∀ x, DV K ((wipeE (noOw env) vs).set j (.sh x)) tv (fv x)) (hts : j ∈ vs := by decide) :
    DS K M env (tAsg (tDc wi (gName j) tYes tk tv vs) (gName i)) (fun m => env.set i (.od m)) eb (toO (rI.bind (dcZ fk fv))) := fun σ G0 H0 B G H T s q => by
  cases e : rI.bind (dcZ fk fv) with
  | none => rw [e] at q; exact q.elim
  | some out =>
    rw [e] at q
    obtain ⟨ds, e1, e2⟩ := bind_some e
    unfold dcZ at e2
    by_cases hz : ds.length ≤ sizeLine
    · rw [if_pos hz] at e2
      refine hi σ G H _ ds s.shd s.ext.gh e1 fun J G1 H1 E1 ok => ?_
      intro Dd hD
      have gD : G1 Dd = none := E1.gh.free hD
      refine ⟨fun i m H2 => i ≤ ds.length ∧ m = ds.length - i ∧ ∃ (G2 : Hp) (acc : IM), Ext G1 H1 G2 H2 ∧ H2 Dd = some (.dK (kvI acc)) ∧ G2 Dd = none ∧ acc.length ≤ i ∧ dcD fk fv (ds.drop i) acc = some out,
        ⟨ds.length, Nat.zero_le _, by omega, G1, [], Ext.own E1.gh hD, upd_same, gD, Nat.le_refl _, by simpa using e2⟩, ?_⟩
      rintro n m H2 ⟨hi2, rfl, G2, acc, E2, hacc, gD2, hl, hr⟩
      by_cases hlt : n < ds.length
      · right
        refine ⟨ok.go G2 H2 n E2.gg E2.gh hlt, fun H3 => ∃ m', m' < ds.length - n ∧ (n + 1 ≤ ds.length ∧ m' = ds.length - (n + 1) ∧ ∃ (G2 : Hp) (acc : IM), Ext G1 H1 G2 H3 ∧ H3 Dd = some (.dK (kvI acc)) ∧ G2 Dd = none ∧ acc.length ≤ n + 1 ∧ dcD fk fv (ds.drop (n + 1)) acc = some out), fun H3 h => h, fun x H3 hy => ?_⟩
        have hget : ds[n]? = some ds[n] := List.getElem?_eq_getElem hlt
        obtain ⟨G3, E3, hx⟩ := ok.yl G2 H2 n x H3 ds[n] E2.gg E2.gh hget hy
        rw [drop_cons hlt] at hr
        unfold dcD at hr
        obtain ⟨k, ek, hr⟩ := bind_some hr
        obtain ⟨z, ez, hr⟩ := bind_some hr
        obtain ⟨dk, ek, e5⟩ := bind_some ek
        have := asI_some e5; subst this
        obtain ⟨dz, ez, e6⟩ := bind_some ez
        have := asI_some e6; subst this
        have hH3 : H3 Dd = some (.dK (kvI acc)) := E3.hh _ _ hacc
        have gD3 : G3 Dd = none := E3.nwO (ow_dK hacc) gD2
        refine bg_name (K := K) j (wipeE (noOw env) vs) _ (L2.wipe σ vs) G3 H3 x ds[n] _ ((s.shd.wipe vs).mono ((E1.gg.trans E2.gg).trans E3.gg)) E3.gh hx rfl fun σ2 s2 w2 _ => ?_
        refine ⟨(w2 vs (by intro i hi; simp at hi; subst hi; exact hts)).trans wipe_idem, ?_⟩
        unfold tYes
        dsimp only
        rw [if_pos rfl]
        refine hk ds[n] σ2 G3 H3 _ _ s2 E3.gh ek fun v G4 H4 E4 h4 => ?_
        cases h4
        have hH4 := E4.hh _ _ hH3
        have gD4 : G4 Dd = none := E4.nwO (ow_dK hH3) gD3
        refine hv ds[n] σ2 G4 H4 _ _ (s2.mono E4.gg) E4.gh ez fun v G5 H5 E5 h5 => ?_
        cases h5
        have hH5 := E5.hh _ _ hH4
        have gD5 : G5 Dd = none := E5.nwO (ow_dK hH4) gD4
        have E15 := ((E2.trans E3).trans E4).trans E5
        refine ⟨kvI acc, .inl k, rfl, hH5, by unfold kvI; rw [List.length_map]; omega, ds.length - (n + 1), by omega, by omega, rfl, G5, putI acc k z, ?_, by rw [upd_same, putK_kvI], gD5, by have := putI_len acc k z; omega, hr⟩
        refine ⟨E15.gg, fun bq o eq => ?_, fun bq o eq => ?_, E15.nw⟩
        · have : bq ≠ Dd := ne_of_none eq hD
          rw [upd_ne this]; exact E15.hh bq o eq
        · have : bq ≠ Dd := ne_of_none eq gD5
          rw [upd_ne this]; exact E15.gh bq o eq
      · left
        have ei : n = ds.length := by omega
        subst ei
        rw [List.drop_length] at hr
        cases hr
        refine ⟨ok.stop G2 H2 _ E2.gg E2.gh (Nat.le_refl _), q _ G2 H2 (s.put (E1.trans E2) (sl := .od out) (S := [Dd]) i ⟨Dd, rfl, rfl, hacc⟩ fun a ha => ?_)⟩
        simp at ha; subst ha
        exact ⟨E1.hh.free hD, gD2, ow_dK hacc⟩
    · rw [if_neg hz] at e2; cases e2
/-! #### d[k] op= e -/
def rGetD : V → V → Hp → VK → Prop := fun o i H Q => ∃ a v, o = .ref a ∧ DGet H a i (some v) ∧ Q v H
def putD (m : IM) : D → D → Option IM
  | .int k, .int v => if m.length < sizeLine then some (putI m k v) else none
  | _, _ => none
def augI (m : IM) (f : D → D → Option D) (rk re : Option D) : Option IM := rk.bind fun k => (odGet m k).bind fun x => re.bind fun y => (f x y).bind fun z => putD m k z
theorem SS.od {K : PySem.W.Frag} {σ : L2.St} {G0 H0 B G H : Hp} (s : SS K env σ G0 H0 B G H) (i : Nat) (m : IM) (h : env[i]? = some (Sl.od m)) : ∃ a, σ[i]? = some (some (.ref a)) ∧ H a = some (.dK (kvI m)) := by
  obtain ⟨F, f1, _, _⟩ := s.fp
  obtain ⟨o, h1, a, rfl, _, h2⟩ := f1 i _ h
  exact ⟨a, h1, h2⟩
theorem SS.chgD {K : PySem.W.Frag} {σ : L2.St} {G0 H0 B G H : Hp} (s : SS K env σ G0 H0 B G H) {a : Addr} {m m' : IM} {i : Nat} (hi : env[i]? = some (Sl.od m)) (hv : σ[i]? = some (some (.ref a))) :
    SS K (env.set i (Sl.od m')) σ G0 H0 B G (upd H a (.dK (kvI m'))) :=
  s.chgS hi fun o S ho _ ⟨l, e, hS, hl⟩ => by
    subst e
    rw [hv] at ho; cases ho
    subst hS
    refine ⟨⟨a, rfl, rfl, upd_same⟩, fun b hb => upd_ne (by simpa using hb), fun b hb => ?_⟩
    simp at hb; subst hb; exact ow_dK upd_same
theorem ds_augD {i : Nat} {m : IM} {ti te : TE} {rk re : Option D} {tip : TIp} {f : D → D → Option D} (hi : env[i]? = some (Sl.od m)) (ho : IpD K tip f) (hk : DV K env ti rk) (he : DV K env te re) :
    DS K M env (tAugS (tVar i) ti te rGetD tip rSetD) (fun m' => env.set i (.od m')) eb (toO (augI m f rk re)) := fun σ G0 H0 B G H T s q => by
  cases e : augI m f rk re with
  | none => rw [e] at q; exact q.elim
  | some m' =>
    rw [e] at q
    obtain ⟨k, ek, e⟩ := bind_some e
    obtain ⟨x, ex, e⟩ := bind_some e
    obtain ⟨y, ey, e⟩ := bind_some e
    obtain ⟨z, ez, e⟩ := bind_some e
    obtain ⟨a, h1, _⟩ := s.od i m hi
    refine ⟨.ref a, h1, hk σ H H _ k s.all (Same.refl H) ek fun w G1 H1 E1 hw => ?_⟩
    have s1 := s.grow E1.hh
    obtain ⟨a1, h1', ha1⟩ := s1.od i m hi
    rw [h1] at h1'; cases h1'
    cases k with
    | int k =>
      cases hw
      obtain ⟨n, en, e'⟩ := Option.map_eq_some_iff.mp (show (getI m k).map PyData.int = some x from ex)
      subst e'
      refine ⟨a, .int n, rfl, .inl ⟨kvI m, .inl k, .inl ha1, rfl, by rw [valV_kvI, en]; rfl⟩, ?_⟩
      refine he σ H1 H1 _ y s1.all (Same.refl H1) ey fun w2 G2 H2 E2 hw2 => ?_
      have s2 := s1.grow E2.hh
      refine ho H2 H2 _ (.int n) y z _ _ (Same.refl H2) (.int n) (dp_mono E2.gh y w2 hw2) ez fun w3 G3 H3 E3 hw3 => ?_
      have s3 := s2.grow E3.hh
      obtain ⟨a3, h3', ha3⟩ := s3.od i m hi
      rw [h1] at h3'; cases h3'
      cases z with
      | int z =>
        cases hw3
        have e : (if m.length < sizeLine then some (putI m k z) else none) = some m' := e
        by_cases hz : m.length < sizeLine
        · rw [if_pos hz] at e; cases e
          refine ⟨a, _, rfl, .inl ⟨kvI m, .inl k, ha3, rfl, by unfold kvI; rw [List.length_map]; exact hz, rfl⟩, ?_⟩
          rw [putK_kvI]
          exact q σ G _ (s3.chgD hi h1)
        · rw [if_neg hz] at e; cases e
      | _ => cases e
    | _ => cases ex
end
theorem get_dict {X : Cx} (hu : X.A.units + 64 < cLine) : PGet X rGetD := by
  intro pins s σ H o i ov iv Q I ro ri h
  obtain ⟨a, v, eo, g, q⟩ := h
  subst eo
  cases (show ov = Value.ref a from ro)
  exact d_getItem (by omega) I g ri fun w' s' I' rw' => ⟨v, H, I', rw', q⟩
theorem kSetD {X : Cx} (hu : X.A.units + 64 < cLine) : PSet X rSetD := set_dict (by omega)
/-! #### a def that hands back a dict of nobody's -/
def RtM : RR := fun G0 H0 G H v d => Ext G0 H0 G H ∧ ∃ p m, v = .ref p ∧ d = dD m ∧ H0 p = none ∧ G p = none ∧ H p = some (.dK (kvI m))
def asM : D → Option IM
  | .dict kvs => kvs.foldr (fun kv r => r.bind fun m => (asI kv.1).bind fun k => (asI kv.2).bind fun v => some ((k, v) :: m)) (some [])
  | _ => none
theorem asM_dD : ∀ m : IM, asM (dD m) = some m
  | [] => rfl
  | p :: r => by
    have ih := asM_dD r
    unfold asM dD at ih ⊢
    simp only [List.map_cons, List.foldr_cons] at ih ⊢
    rw [ih]; rfl
def spM (K : PySem.W.Frag) (m : List D → Option D) : Sp := fun vs H Q _ => ∃ (G : Hp) (ds : List D) (d : D), Same G H ∧ DpAll K G vs ds ∧ m ds = some d ∧ ∀ v G' H', RtM G H G' H' v d → Q v H'
theorem fn_bodyM {K : PySem.W.Frag} {m : List D → Option D} {N : List Str} {t : TS} {vs : List V} {H : Hp} {Q : VK} {E : XK} (h : spM K m vs H Q E) (hn : ∀ ds d, m ds = some d → ds.length ≤ N.length)
    (hb : ∀ ds d, m ds = some d → ∃ (β : Type) (eb : β → En) (en : Empty → En) (o : Out Empty β), DS K (.no RtM) (ds.map Sl.sh ++ List.replicate (N.length - ds.length) Sl.un) t en eb o ∧ o.run = some d) :
    t { nx := fun _ H' => Q .non H', rt := Q } (L2.start N vs) H := by
  obtain ⟨G, ds, d, g, ha, e, q⟩ := h
  obtain ⟨β, eb, en, o, hd, ho⟩ := hb ds d e
  refine hd _ G H G G H _ (start_env g ha (hn ds d e)) ?_
  cases o with
  | nx a => cases a
  | rt d' => cases ho; exact fun v G' H' r => q v G' H' r
  | bk b => cases ho
  | ct b => cases ho
  | no => cases ho
  | xc x => cases ho
structure DfM (P : Program) (w : World) (K : PySem.W.Frag) (mg : Str → Option Value) (base : Heap) (k : Nat) (x : Str) (ps : List Str) (m : List D → Option D) : Prop where
  ex : ∃ f fd, mg x = some (.ref f) ∧ PySem.W.keepIn K (.ref f) = true ∧ Binds K fd ps [] ∧ FnOk P w K mg base CX0 k f fd ps (spM K m)
section
variable {P : Program} {w : World} {K : PySem.W.Frag} {mg : Str → Option Value} {base : Heap} {x qual : Str} {st : Stmt} {f : Addr} {fd : FuncData} {N ps : List Str} {k : Nat}
theorem dfM_mk {m : List D → Option D} (F : Fun K x qual st f fd) (S : FnScope N ps (defScope st)) (hm : mg x = some (.ref f)) (hb : Binds K fd ps []) (hl : ∀ ds d, m ds = some d → ds.length = ps.length) (hN : ps.length ≤ N.length)
    (body : ∀ (cdv : Value) (A : Around) (outer : List Env) (s : Shared) (H : Hp) (E : XK), Room k (A.deeper (envOfC qual (defScope st) s.heap.objs.size f cdv)) →
      ∃ t, PSs (cxOf CX0 P w K mg base N qual (defScope st) f cdv A outer s H E).nox (defBody st) t ∧
        ∀ ds d, m ds = some d → ∃ (β : Type) (eb : β → En) (en : Empty → En) (o : Out Empty β), DS K (.no RtM) (env0 N.length ds) t en eb o ∧ o.run = some d) : DfM P w K mg base (k + 1) x ps m := by
  refine ⟨f, fd, hm, F.kp, hb, ?_⟩
  refine F.ok S (fun vs H Q E h => ?_) fun cdv A outer s H vs Q E hr h => ?_
  · obtain ⟨G, ds, d, _, ha, e, _⟩ := h
    rw [dpa_len ha]; exact hl ds d e
  · obtain ⟨t, h1, h2⟩ := body cdv A outer s H E hr
    exact ⟨t, h1, fn_bodyM h (fun ds d e => by rw [hl ds d e]; exact hN) h2⟩
end
theorem kDfM {X : Cx} (K : PySem.W.Frag) {k : Nat} {x : Str} {ps : List Str} {e : Expr} {es : List Expr} {t : TA} {p pos : Pos} {m : List D → Option D} {P : Program} {w : World} {mg : Str → Option Value} {base : Heap} (d : DfM P w K mg base k x ps m) (hr : Room k X.A) (hg : Gl X x) (ha : PA X (e :: es) t)
    (h1 : X.prog = P := by rfl) (h2 : X.w = w := by rfl) (h3 : X.K = K := by rfl) (h4 : X.mg = mg := by rfl) (h5 : X.base = base := by rfl) (hdb : (x == ("__debug__" : Str)) = false := by decide)
    (he : starEach (e :: es) X.env = (false, eval e X.env) :: starEach es X.env := by rfl) (hpl : (backTo pos (starEach es X.env)).any (·.1) = false := by rfl) :
    PE X (.Call (.Name x p) (e :: es) [] pos) (tCall (spM K m) [] E0 t) := by
  subst h1; subst h2; subst h3; subst h4; subst h5
  obtain ⟨f, fd, h1, h2, h3, h4⟩ := d.ex
  exact pe_call h4 hr hg h1 h2 h3 .nil pass0 ha hdb he hpl
section
variable {K : PySem.W.Frag} {M : Md} {env : En} {α β : Type} {en : α → En} {eb : β → En}
/-- x = f(..), f hands back a dict of nobody's -/
theorem ds_setM {i : Nat} {tA : TA} {rA : Option (List D)} {m : List D → Option D} {E : XK} (h : DA K (noOw env) tA rA) : DS K M env (tAsg (tCall (spM K m) [] E tA) (gName i)) (fun mm => env.set i (.od mm)) eb (toO ((rA.bind m).bind asM)) := fun σ G0 H0 B G H T s q => by
  cases e : (rA.bind m).bind asM with
  | none => rw [e] at q; exact q.elim
  | some mm =>
    rw [e] at q
    obtain ⟨d, e1, e2⟩ := bind_some e
    obtain ⟨ds, e3, e4⟩ := bind_some e1
    refine h σ G H _ ds s.shd s.ext.gh e3 fun vs G1 H1 E1 h1 => ?_
    refine ⟨G1, ds, d, E1.gh, by rw [List.append_nil]; exact h1, e4, ?_⟩
    rintro v G' H' ⟨E', p, m2, rfl, rfl, hp, gp, hl⟩
    rw [asM_dD] at e2; cases e2
    have E12 := E1.trans E'
    refine q _ G' H' (s.put E12 (sl := .od mm) (S := [p]) i ⟨p, rfl, rfl, hl⟩ fun a ha => ?_)
    simp at ha; subst ha
    exact ⟨E1.hh.free hp, gp, ow_dK hl⟩
/-- an own dict is returned -/
theorem ds_retM {i : Nat} {m : IM} (hi : env[i]? = some (Sl.od m)) (hM : M.R = RtM := by rfl) : DS K M env (tRet (tVar i)) en eb (toR (some (dD m)) : Out α β) := fun σ G0 H0 B G H T s q => by
  obtain ⟨F, f1, f2, _⟩ := s.fp
  obtain ⟨o, h1, a, rfl, hS, h2⟩ := f1 i _ hi
  obtain ⟨g1, g2, _⟩ := f2 i a (by rw [hS]; simp)
  exact ⟨.ref a, h1, q (.ref a) G H (by rw [hM]; exact ⟨s.ext, a, m, rfl, rfl, g2, g1, h2⟩)⟩
/-! #### xs.extend(ys), both own; x = f(e, xs.pop()) -/
def extL (ds es : List D) : Option (List D) := if ds.length + es.length ≤ sizeLine then some (ds ++ es) else none
theorem ds_ext {i j : Nat} {ds es : List D} (hi : env[i]? = some (Sl.ow ds)) (hj : env[j]? = some (Sl.ow es)) : DS K M env (tDrop (tBM K "list" rExtend (tVar i) (tCons (tVar j) tNil))) (fun zs => env.set i (.ow zs)) eb (toO (extL ds es)) := fun σ G0 H0 B G H T s q => by
  obtain ⟨l, xs, h1, h2, h3, h4, h5⟩ := s.ow i ds hi
  obtain ⟨l2, xs2, k1, k2, k3, k4, k5⟩ := s.ow j es hj
  unfold extL at q
  by_cases hz : ds.length + es.length ≤ sizeLine
  · rw [if_pos hz] at q
    have l1 := dpa_len h5
    have l2' := dpa_len k5
    exact ⟨.ref l, h1, Or.inl ⟨rfl, _, Or.inl (Or.inl h2)⟩, .ref l2, k1, l, l2, xs, xs2, rfl, rfl, h2, k2, by omega, q σ G _ (s.chg hi h1 h2 (dpa_app h5 k5))⟩
  · rw [if_neg hz] at q; exact q.elim
def callPop (m : List D → Option D) (ds : List D) (ra : Option D) : Option (D × List D) := ra.bind fun a => (popO ds).bind fun p => (m [a, p.1]).bind fun d => some (d, p.2)
theorem ds_callPop {i j : Nat} {ds : List D} {ta : TE} {ra : Option D} {m : List D → Option D} {E : XK} (hj : env[j]? = some (Sl.ow ds)) (ha : DV K (noOw env) ta ra) :
    DS K M env (tAsg (tCall (spD K m) [] E (tCons ta (tCons (tBM0 K "list" rPop (tVar j)) tNil))) (gName i)) (fun (p : D × List D) => (env.set j (.ow p.2)).set i (.sh p.1)) eb (toO (callPop m ds ra)) := fun σ G0 H0 B G H T s q => by
  cases e : callPop m ds ra with
  | none => rw [e] at q; exact q.elim
  | some pr =>
    rw [e] at q
    obtain ⟨a, ea, e⟩ := bind_some e
    obtain ⟨p, ep, e⟩ := bind_some e
    obtain ⟨d, ed, e⟩ := bind_some e
    cases e
    obtain ⟨z, ez, ep⟩ := bind_some ep
    cases ep
    refine ha σ G H _ a s.shd s.ext.gh ea fun va G1 H1 E1 h1 => ?_
    have s1 := s.ext' E1
    obtain ⟨l, xs, k1, k2, k3, k4, k5⟩ := s1.ow j ds hj
    have hlen := dpa_len k5
    obtain ⟨v, hv, hd⟩ := dpa_get k5 ez
    refine ⟨.ref l, k1, Or.inl ⟨rfl, _, Or.inl (Or.inl k2)⟩, l, xs, v, rfl, rfl, k2, by rw [hlen]; exact hv, ?_⟩
    have s2 := s1.chg (ys := xs.dropLast) (es := ds.dropLast) hj k1 k2 (by rw [List.dropLast_eq_take, List.dropLast_eq_take, hlen]; exact dpa_take _ k5)
    refine ⟨G1, [a, z], d, s2.ext.gh, by rw [List.append_nil]; exact .cons h1 (.cons hd .nil), ed, fun u G3 H3 E3 h3 => ?_⟩
    exact q _ G3 H3 ((s2.ext' E3).set i h3)
end
end Dl

set_option Elab.async false
set_option linter.all false
set_option maxRecDepth 100000
set_option maxHeartbeats 2000000
namespace Dl
open PySem PySem.Spec PyProof.Rows L2
/-! sorted of a list of lists of ints -/
def rowD (r : List Int) : D := .list (r.map PyData.int)
def rowsD : List D → Option (List (List Int))
  | [] => some []
  | .list ds :: xs => (intsD ds).bind fun r => (rowsD xs).bind fun rs => some (r :: rs)
  | _ :: _ => none
def rowLe (p q : List Int) : Bool := decide (p ≤ q)
def srtR (rs : List (List Int)) : List (List Int) := rs.mergeSort rowLe
def sortLR : List D → Option (List D)
  | [.list ds] => (rowsD ds).bind fun rs => if rs.length ≤ sizeLine then some ((srtR rs).map rowD) else none
  | _ => none
theorem intsD_eq : ∀ {ds : List D} {ns : List Int}, intsD ds = some ns → ds = ns.map PyData.int
  | [], ns, h => by cases h; rfl
  | d :: ds, ns, h => by
    cases d with
    | int i =>
      obtain ⟨r, e1, e2⟩ := bind_some (show (intsD ds).bind (fun r => some (i :: r)) = some ns from by
        first | exact h | (simp only [intsD, Option.map] at h; cases e : intsD ds with | none => rw [e] at h; cases h | some z => rw [e] at h; simpa using h))
      cases e2
      rw [intsD_eq e1]; rfl
    | _ => cases h
theorem rowsD_eq : ∀ {ds : List D} {rs : List (List Int)}, rowsD ds = some rs → ds = rs.map rowD
  | [], rs, h => by cases h; rfl
  | d :: ds, rs, h => by
    cases d with
    | list es =>
      obtain ⟨r, e1, e2⟩ := bind_some (show (intsD es).bind (fun r => (rowsD ds).bind fun rs => some (r :: rs)) = some rs from h)
      obtain ⟨rr, e3, e4⟩ := bind_some e2
      cases e4
      rw [rowsD_eq e3, intsD_eq e1]; rfl
    | _ => cases h
def RelD (K : PySem.W.Frag) (H : Hp) (u : Value) (r : List Int) : Prop := ∃ x : V, RelV x u ∧ Dp K H x (rowD r)
theorem each_of {K : PySem.W.Frag} {H : Hp} : ∀ {vs : List V} {us : List Value} {rs : List (List Int)}, Vals vs us → DpAll K H vs (rs.map rowD) → PySem.W.EachIs (RelD K H) us rs
  | _, _, [], .nil, _ => .nil
  | _, _, r :: rs, .cons a b, .cons c d => .cons ⟨_, a, c⟩ (each_of b d)
theorem of_each {K : PySem.W.Frag} {H : Hp} : ∀ {us : List Value} {rs : List (List Int)}, PySem.W.EachIs (RelD K H) us rs → ∃ vs, Vals vs us ∧ DpAll K H vs (rs.map rowD)
  | _, _, .nil => ⟨[], .nil, .nil⟩
  | _, _, .cons ⟨x, a, c⟩ t => by
    obtain ⟨vs, h1, h2⟩ := of_each t
    exact ⟨x :: vs, .cons a h1, .cons c h2⟩
def rSortedR (K : PySem.W.Frag) : List V → Hp → VK → Prop := fun xs H Q => ∃ (a : Addr) (vs : List V) (rs : List (List Int)) (G : Hp), Same G H ∧ xs = [V.ref a] ∧ SqL K H a vs ∧ DpAll K G vs (rs.map rowD) ∧ rs.length ≤ sizeLine ∧
  ∀ (ys : List V) (p : Addr), DpAll K G ys ((srtR rs).map rowD) → H p = none → Q (.ref p) (upd H p (.lst ys))
theorem srtR_eq (rs : List (List Int)) : rs.mergeSort (PySem.W.dataLe false rowD) = srtR rs := by
  have := PySem.W.dataLe_rows (fun r : List Int => r)
  show rs.mergeSort (PySem.W.dataLe false fun b => PyData.list (b.map PyData.int)) = _
  rw [this]; rfl
theorem cr_sortedR {X : Cx} (hu : X.A.units + 64 < cLine) : CallR X (.builtin "sorted") (rSortedR X.K) := by
  intro pins s σ H xs us Q I r h
  obtain ⟨a, vs, rs, G, g, rfl, hs, hd, hz, q⟩ := h
  obtain ⟨its, rv, hl, _⟩ := I.list hs
  rw [Vals.ref1 r]
  have e := each_of rv hd
  refine PySem.W.sorted_data (enc := rowD) hl.isList e (e.mono fun u r ⟨x, h1, h2⟩ => L2.Dp.reads I _ x u (dp_lay _ _ (dp_mono g _ _ h2)) h1) (.of fun b b' => by show PySem.W.alikeAll _ _ = true; exact PySem.W.alike_ints b b') (.others fun b => ⟨fun z => (by cases z), fun xs z => (by cases z)⟩) hz (fun b _ => ?_) fun out ho eo => ?_
  · show X.A.units + 2 + (PyData.depthAll (b.map PyData.int) + 1) < cLine
    rw [PySem.W.depth_ints]; omega
  · rw [srtR_eq] at eo
    obtain ⟨ys, h1, h2⟩ := of_each eo
    obtain ⟨ep, he'⟩ := PyProof.Rows.sortedAll_at s.heap its (List.toArray out)
    have hlen : ys.length ≤ sizeLine := by rw [h1.length, ho]; exact hz
    exact ⟨.ref _, upd H (s.heap.objs.size + 1) (.lst ys), I.laid (t' := s.toks) (fun _ _ => PyProof.Rows.sortedAll_old) (Nat.le_succ _) ⟨hlen, out, ep, h1, he'⟩, rfl, q ys _ h2 (I.hok.fresh (Nat.le_succ _))⟩
theorem kSortedR {X : Cx} (K : PySem.W.Frag) (hu : X.A.units + 64 < cLine) (h : X.K = K := by rfl) : CallR X (.builtin "sorted") (rSortedR K) := h ▸ cr_sortedR hu
theorem cl_sortR {K : PySem.W.Frag} : ClL K (rSortedR K) sortLR := fun G H Q xs ds vs g hx e q => by
  match xs, hx, e with
  | [.list es], .cons (.lst h1 h2) .nil, e =>
    obtain ⟨rs, e1, e2⟩ := bind_some (show (rowsD es).bind _ = some ds from e)
    by_cases hz : rs.length ≤ sizeLine
    · rw [if_pos hz] at e2; cases e2
      have := rowsD_eq e1; subst this
      exact ⟨_, _, rs, G, g, rfl, .inl (rd_mono g (.inl h1)), h2, hz, fun ys p hy fp => q p ys G _ (Ext.own g fp) fp (g.free fp) upd_same hy⟩
    · rw [if_neg hz] at e2; cases e2
end Dl

set_option Elab.async false
set_option linter.all false
set_option maxRecDepth 100000
set_option maxHeartbeats 2000000
namespace Dl
open PySem PySem.Spec PyProof.Rows L2
section
variable {X : Cx}
theorem sw_trueD {kx vx : Expr} {gs : List Comprehension} {scope : Scope} {pos py : Pos} {y : Str} {l : Nat} {env : Env} (hk : env.scope.kind = .function) (hy : env.scope.names.lookup y = some .local) (hl : (py.line == pos.line) = true)
    (ha : (scope.names.any fun (n, k) => n == y && (k == .local || k == .cell)) = false) : swapsWith (.DictComp kx vx gs scope pos) (some (.Name y py)) l env = pure true :=
  (show swapsWith (.DictComp kx vx gs scope pos) (some (.Name y py)) l env = swapsWith (.ListComp kx gs scope pos) (some (.Name y py)) l env from rfl).trans (sw_true hk hy hl ha)
/-- y = {k: v for ..}, y a local name -/
theorem ps_setDc {i : Nat} {y : Str} {py : Pos} {kx vx tg iter : Expr} {ifs : List Expr} {scope : Scope} {own : List (Str × Nat)} {pos spos : Pos} {wi : TI} {g : TG} {tt : TT} {tk tv : TE} (hc : X.calm = true) (hN : X.N.Nodup) (hy : X.N[i]? = some y) (hyl : X.env.scope.names.lookup y = some .local)
    (hsw : swapsWith (.DictComp kx vx [⟨tg, iter, ifs, 0⟩] scope pos) (some (.Name y py)) spos.line X.env = pure true) (hi : PI X tg iter wi) (ok : BlkOk X.N X.env.scope scope own)
    (hg : ∀ (s : Shared) (H : Hp) (C : Addr) (cl : List (Str × Addr)) (fp : List Addr), PG (X.blk s H scope (compEnvC scope cl C X.env) fp) tg g) (ht : ∀ (s : Shared) (H : Hp) (C : Addr) (cl : List (Str × Addr)) (fp : List Addr), PTs (X.blk s H scope (compEnvC scope cl C X.env) fp) ifs tt)
    (hk : ∀ (s : Shared) (H : Hp) (C : Addr) (cl : List (Str × Addr)) (fp : List Addr), PE (X.blk s H scope (compEnvC scope cl C X.env) fp) kx tk)
    (he : ∀ (s : Shared) (H : Hp) (C : Addr) (cl : List (Str × Addr)) (fp : List Addr), PE (X.blk s H scope (compEnvC scope cl C X.env) fp) vx tv) (hs : ∀ x, foldedSetIterable iter X.env x = pure x := by intro _; rfl) :
    PS X (.Assign [.Name y py] (.DictComp kx vx [⟨tg, iter, ifs, 0⟩] scope pos) spos) (tAsg (tDc wi g tt tk tv (own.map (·.2))) (gName i)) := by
  refine ⟨fun pins s σ H D I h => ?_⟩
  rw [exec_Assign_Name_used _ _ _ _ hsw]
  refine wpAny_bind (wpAny_standAt (wpAny_bind ?_))
  show wpAny _ X.A (do let _ ← comprehension (.DictComp kx vx [⟨tg, iter, ifs, 0⟩] scope pos) scope X.env (firstIterPos [⟨tg, iter, ifs, 0⟩] pos) newDict false (eval iter X.env) (some (assign (.Name y py) X.env))) _ _ s
  have h : tDc wi g tt tk tv (own.map (·.2)) σ H (fun x H1 => gName i x σ H1 D.nx) := h
  refine wpAny_bind (thn (dc_core (Qf := fun _ s' => SP X pins D .next s') hc hN I hi ok hg ht hk he hs h fun L C s' m H' I' q hn f => ?_) fun _ s' hq => wpAny_pure (wpAny_pure hq))
  show wpAny _ _ (assign (.Name y py) X.env (.ref L)) _ _ _
  obtain ⟨f0, f1, f2, f3, f4, f5⟩ := f
  refine wpAny_assign_Name (store_ok2 (v := V.ref L) I' hN hy (.inl hyl) rfl (fun s2 I2 ⟨a, sb, ha⟩ => ?_) (.inr hyl))
  have haC : C ≠ a := ha.elim (fun z => z ▸ f1) fun z e => f4 y a z e.symm
  exact ⟨m, hn.sameBut sb haC, fun h3 sb3 => ⟨_, H', I2.turned (t' := s2.toks) (fun b o hb e => (sb3.2 b hb).trans e) f0 f1 f3 f4 f5, q⟩⟩
end
end Dl

set_option maxRecDepth 100000
set_option maxHeartbeats 1000000
set_option linter.all false
namespace Dl
/-! ways within a list: Warshall's closing, knots, the breadth-first look -/
/-- one or more steps of e -/
inductive Rch (e : Nat → Nat → Prop) : Nat → Nat → Prop
  | one {a b : Nat} : e a b → Rch e a b
  | more {a b c : Nat} : Rch e a b → e b c → Rch e a c
theorem Rch.trans {e : Nat → Nat → Prop} {a b c : Nat} (h : Rch e a b) (k : Rch e b c) : Rch e a c := by
  induction k with
  | one k => exact .more h k
  | more _ k ih => exact .more ih k
/-- the row p takes m's row over if it has m -/
def wst (m : Nat) (f : Nat → Nat) (p : Nat) : Nat → Nat := if (f p).testBit m = true then fun q => if q = p then f p ||| f m else f q else f
def wfo (m : Nat) (P : List Nat) (f : Nat → Nat) : Nat → Nat := P.foldl (wst m) f
theorem or_idem (a b : Nat) : (a ||| b) ||| b = a ||| b := Nat.eq_of_testBit_eq fun i => by
  simp only [Nat.testBit_or]; cases a.testBit i <;> cases b.testBit i <;> rfl
theorem wst_m (m : Nat) (f : Nat → Nat) (p : Nat) : wst m f p m = f m := by
  unfold wst
  split
  · by_cases h : m = p
    · subst h
      show (if m = m then f m ||| f m else f m) = f m
      rw [if_pos rfl]; exact Nat.eq_of_testBit_eq fun i => by simp
    · show (if m = p then f p ||| f m else f m) = f m
      rw [if_neg h]
  · rfl
theorem wfo_eq (m : Nat) : ∀ (P : List Nat) (f : Nat → Nat) (q : Nat), wfo m P f q = if q ∈ P ∧ (f q).testBit m = true then f q ||| f m else f q
  | [], f, q => by simp [wfo]
  | p :: P, f, q => by
    show wfo m P (wst m f p) q = _
    rw [wfo_eq m P (wst m f p) q, wst_m]
    unfold wst
    by_cases hp : (f p).testBit m = true
    · rw [if_pos hp]
      by_cases hq : q = p
      · subst hq
        have hb : (f q ||| f m).testBit m = true := by rw [Nat.testBit_or, hp]; rfl
        simp only [if_pos, hb, hp, and_true, List.mem_cons, true_or]
        split
        · exact or_idem _ _
        · rfl
      · simp only [List.mem_cons, hq, false_or, if_false]
    · rw [if_neg hp]
      by_cases hq : q = p
      · subst hq; simp [hp]
      · simp [hq]
def war (P : List Nat) (Ms : List Nat) (f : Nat → Nat) : Nat → Nat := Ms.foldl (fun f m => wfo m P f) f
/-- closed at m, on P -/
def ClAt (P : List Nat) (f : Nat → Nat) (m : Nat) : Prop := ∀ q t, q ∈ P → (f q).testBit m = true → (f m).testBit t = true → (f q).testBit t = true
theorem wfo_tb {m q t : Nat} {P : List Nat} {f : Nat → Nat} (hq : q ∈ P) : (wfo m P f q).testBit t = true ↔ (f q).testBit t = true ∨ ((f q).testBit m = true ∧ (f m).testBit t = true) := by
  rw [wfo_eq]
  by_cases h : (f q).testBit m = true
  · rw [if_pos ⟨hq, h⟩, Nat.testBit_or, Bool.or_eq_true]; simp [h]
  · rw [if_neg (fun z => h z.2)]; simp [h]
theorem wfo_cl {m : Nat} {P : List Nat} {f : Nat → Nat} (hm : m ∈ P) : ClAt P (wfo m P f) m := by
  intro q t hq h1 h2
  rw [wfo_tb hq] at h1 ⊢
  rw [wfo_tb hm] at h2
  rcases h1 with h1 | ⟨h1, _⟩ <;> rcases h2 with h2 | ⟨_, h2⟩ <;> exact .inr ⟨h1, h2⟩
theorem wfo_keep {m k : Nat} {P : List Nat} {f : Nat → Nat} (hk : k ∈ P) (h : ClAt P f k) (hm : m ∈ P) : ClAt P (wfo m P f) k := by
  intro q t hq h1 h2
  rw [wfo_tb hq] at h1 ⊢
  rw [wfo_tb hk] at h2
  rcases h1 with h1 | ⟨h1, h1'⟩ <;> rcases h2 with h2 | ⟨h2, h2'⟩
  · exact .inl (h q t hq h1 h2)
  · exact .inr ⟨h q m hq h1 h2, h2'⟩
  · exact .inr ⟨h1, h m t hm h1' h2⟩
  · exact .inr ⟨h1, h2'⟩
theorem war_cl {P : List Nat} : ∀ (Ms Ds : List Nat) (f : Nat → Nat), (∀ m ∈ Ms, m ∈ P) → (∀ k ∈ Ds, k ∈ P ∧ ClAt P f k) → ∀ k, k ∈ Ms ∨ k ∈ Ds → ClAt P (war P Ms f) k
  | [], Ds, f, _, hd, k, hk => by
    rcases hk with hk | hk
    · cases hk
    · exact (hd k hk).2
  | m :: Ms, Ds, f, hm, hd, k, hk => by
    have hmP := hm m List.mem_cons_self
    refine war_cl Ms (m :: Ds) (wfo m P f) (fun x hx => hm x (List.mem_cons_of_mem _ hx)) (fun x hx => ?_) k ?_
    · rcases List.mem_cons.mp hx with rfl | hx
      · exact ⟨hmP, wfo_cl hmP⟩
      · exact ⟨(hd x hx).1, wfo_keep (hd x hx).1 (hd x hx).2 hmP⟩
    · rcases hk with hk | hk
      · rcases List.mem_cons.mp hk with rfl | hk
        · exact .inr List.mem_cons_self
        · exact .inl hk
      · exact .inr (List.mem_cons_of_mem _ hk)
theorem war_up {P : List Nat} {q t : Nat} (hq : q ∈ P) : ∀ (Ms : List Nat) (f : Nat → Nat), (f q).testBit t = true → (war P Ms f q).testBit t = true
  | [], f, h => h
  | m :: Ms, f, h => war_up hq Ms (wfo m P f) ((wfo_tb hq).mpr (.inl h))
theorem war_so {P : List Nat} {e : Nat → Nat → Prop} : ∀ (Ms : List Nat) (f : Nat → Nat), (∀ m ∈ Ms, m ∈ P) → (∀ q ∈ P, ∀ t, (f q).testBit t = true → Rch e q t) → ∀ q ∈ P, ∀ t, (war P Ms f q).testBit t = true → Rch e q t
  | [], f, _, h, q, hq, t, ht => h q hq t ht
  | m :: Ms, f, hm, h, q, hq, t, ht => by
    refine war_so Ms (wfo m P f) (fun x hx => hm x (List.mem_cons_of_mem _ hx)) (fun q hq t ht => ?_) q hq t ht
    rcases (wfo_tb hq).mp ht with ht | ⟨h1, h2⟩
    · exact h q hq t ht
    · exact (h q hq m h1).trans (h m (hm m List.mem_cons_self) t h2)
/-- Warshall: what the rows tell is what one or more steps reach -/
theorem war_ok {P : List Nat} {e : Nat → Nat → Prop} {f : Nat → Nat} (hf : ∀ q ∈ P, ∀ t, (f q).testBit t = true ↔ e q t) (he : ∀ a b, e a b → a ∈ P ∧ b ∈ P) {q t : Nat} (hq : q ∈ P) : (war P P f q).testBit t = true ↔ Rch e q t := by
  constructor
  · exact war_so P f (fun _ h => h) (fun q hq t ht => .one ((hf q hq t).mp ht)) q hq t
  · intro h
    induction h with
    | one h => exact war_up hq P f ((hf _ hq _).mpr h)
    | more h h2 ih =>
      have hb := (he _ _ h2).1
      exact war_cl P [] f (fun _ h => h) (fun _ h => by cases h) _ (.inl hb) _ _ hq (ih) (war_up hb P f ((hf _ hb _).mpr h2))
theorem rch_mem {e : Nat → Nat → Prop} {P : List Nat} (he : ∀ a b, e a b → a ∈ P ∧ b ∈ P) {a b : Nat} (h : Rch e a b) : a ∈ P ∧ b ∈ P := by
  induction h with
  | one h => exact he _ _ h
  | more _ h ih => exact ⟨ih.1, (he _ _ h).2⟩
/-! #### knots -/
def kno (P : List Nat) (A : Nat → Nat → Bool) (p : Nat) : List Nat := P.filter fun o => decide (o = p) || (A p o && A o p)
def kns (P : List Nat) (A : Nat → Nat → Bool) : List (List Nat) := (P.filter fun p => decide ((kno P A p).head? = some p)).map (kno P A)
theorem kno_sub {P : List Nat} {A : Nat → Nat → Bool} {p o : Nat} (h : o ∈ kno P A p) : o ∈ P := (List.mem_filter.mp h).1
theorem kno_self {P : List Nat} {A : Nat → Nat → Bool} {p : Nat} (h : p ∈ P) : p ∈ kno P A p := List.mem_filter.mpr ⟨h, by simp⟩
theorem kno_len {P : List Nat} {A : Nat → Nat → Bool} {p : Nat} : (kno P A p).length ≤ P.length := List.length_filter_le _ _
theorem kno_full {P : List Nat} {A : Nat → Nat → Bool} {p : Nat} (h : (kno P A p).length = P.length) : kno P A p = P := List.Sublist.eq_of_length List.filter_sublist h
/-- all are knotted: one knot -/
theorem kns_one {P : List Nat} {A : Nat → Nat → Bool} (hne : P ≠ []) (hn : P.Nodup) (h : ∀ p ∈ P, ∀ o ∈ P, p ≠ o → A p o = true) : kns P A = [P] := by
  have hk : ∀ p ∈ P, kno P A p = P := fun p hp => List.filter_eq_self.mpr fun o ho => by
    by_cases e : o = p
    · simp [e]
    · rw [h p hp o ho (fun z => e z.symm), h o ho p hp e]; simp
  obtain ⟨x, r, rfl⟩ : ∃ x r, P = x :: r := by cases P with | nil => exact absurd rfl hne | cons x r => exact ⟨x, r, rfl⟩
  have : (x :: r).filter (fun p => decide ((kno (x :: r) A p).head? = some p)) = [x] := by
    rw [List.filter_cons_of_pos (by rw [hk x List.mem_cons_self]; simp)]
    rw [List.filter_eq_nil_iff.mpr fun p hp => ?_]
    rw [hk p (List.mem_cons_of_mem _ hp)]
    have : x ≠ p := fun z => by subst z; exact (List.nodup_cons.mp hn).1 hp
    simpa using this
  unfold kns
  rw [this, List.map_cons, List.map_nil, hk x List.mem_cons_self]
/-- a place's knot is told by its head -/
theorem kno_eq {P : List Nat} {A : Nat → Nat → Bool} (ht : ∀ a b c, a ∈ P → b ∈ P → c ∈ P → A a b = true → A b c = true → A a c = true) {p q : Nat} (hp : p ∈ P) (hq : q ∈ kno P A p) : kno P A q = kno P A p := by
  have hqP := kno_sub hq
  have hq2 := (List.mem_filter.mp hq).2
  simp only [Bool.or_eq_true, decide_eq_true_eq, Bool.and_eq_true] at hq2
  rcases hq2 with rfl | ⟨h1, h2⟩
  · rfl
  · refine List.filter_congr fun o ho => ?_
    have i : (A q o = true ↔ o = p ∧ A q p = true ∨ A p o = true) := ⟨fun h => .inr (ht p q o hp hqP ho h1 h), fun h => h.elim (fun z => z.1 ▸ h2) fun z => ht q p o hqP hp ho h2 z⟩
    have j : (A o q = true ↔ o = p ∧ A p q = true ∨ A o p = true) := ⟨fun h => .inr (ht o q p ho hqP hp h h2), fun h => h.elim (fun z => z.1 ▸ h1) fun z => ht o p q ho hp hqP z h1⟩
    by_cases e1 : o = p
    · subst e1
      simp [h1, h2]
    · by_cases e2 : o = q
      · subst e2; simp [h1, h2]
      · have i' : A q o = A p o := by
          cases h3 : A p o <;> cases h4 : A q o <;> first | rfl | (have := i.mp h4; simp [e1, h3] at this; done) | (have := i.mpr (.inr h3); rw [h4] at this; cases this)
        have j' : A o q = A o p := by
          cases h3 : A o p <;> cases h4 : A o q <;> first | rfl | (have := j.mp h4; simp [e1, h3] at this; done) | (have := j.mpr (.inr h3); rw [h4] at this; cases this)
        simp [e1, e2, i', j']
theorem kns_head {P : List Nat} {A : Nat → Nat → Bool} (ht : ∀ a b c, a ∈ P → b ∈ P → c ∈ P → A a b = true → A b c = true → A a c = true) {p : Nat} (hp : p ∈ P) : kno P A p ∈ kns P A := by
  have hm := kno_self (A := A) hp
  obtain ⟨x, r, hx⟩ : ∃ x r, kno P A p = x :: r := by
    cases e : kno P A p with
    | nil => rw [e] at hm; cases hm
    | cons x r => exact ⟨x, r, rfl⟩
  have hxm : x ∈ kno P A p := by rw [hx]; exact List.mem_cons_self
  have e := kno_eq ht hp hxm
  refine List.mem_map.mpr ⟨x, List.mem_filter.mpr ⟨kno_sub hxm, ?_⟩, e⟩
  rw [e, hx]; simp
/-- one knot alone: all are knotted -/
theorem kns_all {P : List Nat} {A : Nat → Nat → Bool} (ht : ∀ a b c, a ∈ P → b ∈ P → c ∈ P → A a b = true → A b c = true → A a c = true) (h : (kns P A).length = 1) : P ≠ [] ∧ ∀ p ∈ P, ∀ o ∈ P, p ≠ o → A p o = true := by
  obtain ⟨K, hK⟩ := List.length_eq_one_iff.mp h
  refine ⟨fun z => (by rw [z] at h; exact absurd (show (0:Nat) = 1 from h) (by decide)), fun p hp o ho hne => ?_⟩
  have h1 := kns_head ht hp
  have h2 := kns_head ht ho
  rw [hK] at h1 h2
  simp at h1 h2
  have : o ∈ kno P A p := by rw [h1, ← h2]; exact kno_self ho
  have := (List.mem_filter.mp this).2
  simp only [Bool.or_eq_true, decide_eq_true_eq, Bool.and_eq_true] at this
  rcases this with z | z
  · exact absurd z.symm hne
  · exact z.1
/-- several knots: each is a part that lacks something -/
theorem kns_less {P : List Nat} {A : Nat → Nat → Bool} (hn : P.Nodup) (ht : ∀ a b c, a ∈ P → b ∈ P → c ∈ P → A a b = true → A b c = true → A a c = true) (h : (kns P A).length ≠ 1) {K : List Nat} (hK : K ∈ kns P A) : K.length < P.length := by
  obtain ⟨p, hp, rfl⟩ := List.mem_map.mp hK
  have hpP := (List.mem_filter.mp hp).1
  rcases Nat.lt_or_ge (kno P A p).length P.length with z | z
  · exact z
  · exfalso
    have hf := kno_full (Nat.le_antisymm kno_len z)
    refine h ?_
    have hk : ∀ q ∈ P, kno P A q = P := fun q hq => by rw [kno_eq ht hpP (by rw [hf]; exact hq), hf]
    obtain ⟨x, r, rfl⟩ : ∃ x r, P = x :: r := by cases P with | nil => cases hpP | cons x r => exact ⟨x, r, rfl⟩
    have : (x :: r).filter (fun p => decide ((kno (x :: r) A p).head? = some p)) = [x] := by
      rw [List.filter_cons_of_pos (by rw [hk x List.mem_cons_self]; simp)]
      rw [List.filter_eq_nil_iff.mpr fun p hp => ?_]
      rw [hk p (List.mem_cons_of_mem _ hp)]
      have : x ≠ p := fun z => by subst z; exact (List.nodup_cons.mp hn).1 hp
      simpa using this
    unfold kns
    rw [this]; rfl
theorem kns_num {P : List Nat} {A : Nat → Nat → Bool} : (kns P A).length ≤ P.length := by
  unfold kns; rw [List.length_map]; exact List.length_filter_le _ _
theorem nodup_len : ∀ {l P : List Nat}, l.Nodup → (∀ x ∈ l, x ∈ P) → l.length ≤ P.length
  | [], _, _, _ => Nat.zero_le _
  | x :: l, P, hn, hs => by
    have hx := hs x List.mem_cons_self
    have hn' := List.nodup_cons.mp hn
    have ih := nodup_len (P := P.erase x) hn'.2 fun y hy => (List.mem_erase_of_ne (show y ≠ x from fun z => hn'.1 (z ▸ hy))).mpr (hs y (List.mem_cons_of_mem _ hy))
    rw [List.length_erase_of_mem hx] at ih
    have : 0 < P.length := List.length_pos_of_mem hx
    simp only [List.length_cons]; omega
/-- knots lie apart -/
theorem kns_apart {P : List Nat} {A : Nat → Nat → Bool} (hn : P.Nodup) (ht : ∀ a b c, a ∈ P → b ∈ P → c ∈ P → A a b = true → A b c = true → A a c = true) : (kns P A).flatten.Nodup := by
  unfold kns
  refine List.pairwise_flatten.mpr ⟨fun l hl => ?_, ?_⟩
  · obtain ⟨p, _, rfl⟩ := List.mem_map.mp hl
    exact List.Pairwise.filter _ hn
  · rw [List.pairwise_map]
    refine List.Pairwise.imp_of_mem (fun {p q} hp hq hne x hx y hy z => ?_) (List.Pairwise.filter _ hn)
    subst z
    have hp' := List.mem_filter.mp hp
    have hq' := List.mem_filter.mp hq
    have e1 := kno_eq ht hp'.1 hx
    have e2 := kno_eq ht hq'.1 hy
    have h1 := of_decide_eq_true hp'.2
    have h2 := of_decide_eq_true hq'.2
    rw [← e1, e2, h2] at h1
    exact hne (Option.some.inj h1).symm
theorem kns_sum {P : List Nat} {A : Nat → Nat → Bool} (hn : P.Nodup) (ht : ∀ a b c, a ∈ P → b ∈ P → c ∈ P → A a b = true → A b c = true → A a c = true) : ((kns P A).map List.length).sum ≤ P.length := by
  rw [← List.length_flatten]
  refine nodup_len (kns_apart hn ht) fun x hx => ?_
  obtain ⟨l, hl, hx⟩ := List.mem_flatten.mp hx
  obtain ⟨p, _, rfl⟩ := List.mem_map.mp hl
  exact kno_sub hx
theorem kns_ne {P : List Nat} {A : Nat → Nat → Bool} {K : List Nat} (hK : K ∈ kns P A) : 1 ≤ K.length := by
  obtain ⟨p, hp, rfl⟩ := List.mem_map.mp hK
  exact List.length_pos_of_mem (kno_self (List.mem_filter.mp hp).1)
/-- the stack's weight -/
def wQ (Q : List Nat) : Nat := if Q.length = 0 then 1 else 2 * Q.length - 1
def wS (S : List (List Nat)) : Nat := (S.map wQ).sum
theorem wS_parts : ∀ (Ks : List (List Nat)), (∀ K ∈ Ks, 1 ≤ K.length) → wS Ks + Ks.length = 2 * (Ks.map List.length).sum
  | [], _ => rfl
  | K :: Ks, h => by
    have ih := wS_parts Ks fun K hK => h K (List.mem_cons_of_mem _ hK)
    have h1 := h K List.mem_cons_self
    have e : wQ K = 2 * K.length - 1 := if_neg (by omega)
    unfold wS at ih ⊢
    simp only [List.map_cons, List.sum_cons, List.length_cons, e]
    omega
theorem wQ_pos (Q : List Nat) : 1 ≤ wQ Q := by unfold wQ; split <;> omega
theorem wS_len : ∀ S : List (List Nat), S.length ≤ wS S
  | [] => Nat.zero_le _
  | Q :: S => by
    have := wS_len S
    have := wQ_pos Q
    unfold wS at *
    simp only [List.map_cons, List.sum_cons, List.length_cons]; omega
theorem wS_app (S T : List (List Nat)) : wS (S ++ T) = wS S + wS T := by unfold wS; rw [List.map_append, List.sum_append]
theorem wS_rev (S : List (List Nat)) : wS S.reverse = wS S := by unfold wS; rw [List.map_reverse, List.sum_reverse]
end Dl

set_option Elab.async false
set_option linter.all false
set_option maxRecDepth 100000
set_option maxHeartbeats 2000000
namespace Dl
open PySem PySem.Spec PyProof.Rows L2
/-! ### a written dict of the module: text keys, values without parts -/
structure Gd (K : PySem.W.Frag) (w : World) (mg : Str → Option Value) (x : Str) (p : Addr) (tab : List (Str × D)) : Prop where
  ns : mg x = some (.ref p)
  gt : ∀ z d, tab.lookup z = some d → ∃ v, KDct K w p z v ∧ ∀ G, Dp K G v d
def getKd (tab : List (Str × D)) : D → Option D
  | .str z => tab.lookup z
  | _ => none
theorem kIxD {X : Cx} (K : PySem.W.Frag) (w : World) (h : X.K = K := by rfl) (h2 : X.w = w := by rfl) : IxR X (rIxD K w) := by
  subst h; subst h2; exact ix_kdict
theorem dv_kd {K : PySem.W.Frag} {w : World} {mg : Str → Option Value} {x : Str} {p : Addr} {tab : List (Str × D)} {env : En} {tb : TE} {rb : Option D} (g : Gd K w mg x p tab) (hb : DV K env tb rb) :
    DV K env (tOp (rIxD K w) (tC (.ref p)) tb) (Option.bind rb (getKd tab)) := fun σ G H Q d s gh e q => by
  obtain ⟨y, ey, e⟩ := bind_some e
  refine hb σ G H _ y s gh ey fun v G1 H1 E1 h1 => ?_
  cases y with
  | str z =>
    obtain ⟨u, k1, k2⟩ := g.gt z d e
    cases h1
    exact ⟨p, z, u, rfl, rfl, k1, q u G1 H1 E1 (k2 G1)⟩
  | _ => cases e
/-- one entry told -/
theorem gd_nil {K : PySem.W.Frag} {w : World} {p : Addr} : ∀ z d, ([] : List (Str × D)).lookup z = some d → ∃ v, KDct K w p z v ∧ ∀ G, Dp K G v d := fun z d h => by cases h
theorem gd_cons {K : PySem.W.Frag} {w : World} {p : Addr} {y : Str} {e : D} {tab : List (Str × D)} {u : Value} {v : V} (hk : ∃ es n, K.lookup p = some ⟨.type "dict", none, .dict es n, #[]⟩ ∧ PySem.W.KeysLit w.params es.toList) (hn : PySem.W.nsIn K p y = some (some u)) (r : RelV v u) (hd : ∀ G, Dp K G v e)
    (t : ∀ z d, tab.lookup z = some d → ∃ v, KDct K w p z v ∧ ∀ G, Dp K G v d) : ∀ z d, ((y, e) :: tab).lookup z = some d → ∃ v, KDct K w p z v ∧ ∀ G, Dp K G v d := fun z d h => by
  rw [List.lookup_cons] at h
  by_cases c : (z == y) = true
  · rw [c] at h
    cases h
    have : z = y := eq_of_beq c
    subst this
    obtain ⟨es, n, k1, k2⟩ := hk
    exact ⟨v, ⟨es, n, u, k1, k2, hn, r⟩, hd⟩
  · rw [Bool.eq_false_iff.mpr c] at h
    exact t z d h
end Dl

set_option Elab.async false
set_option linter.all false
set_option maxRecDepth 100000
set_option maxHeartbeats 2000000
namespace Dl
open PySem PySem.Spec PyProof.Rows L2
/-! ### data equal to themselves -/
/-- laid without a dict, at most p deep -/
def Eqs (p : Nat) (d : D) : Prop := d.canLay0 = true ∧ d.depth ≤ p
mutual
theorem eqv_same : ∀ d : D, d.canLay0 = true → PyData.eqv d d = true
  | .none, _ => by rw [PyData.eqv]
  | .bool b, _ => by rw [PyData.eqv]; exact beq_self_eq_true b
  | .int i, _ => by rw [PyData.eqv]; exact beq_self_eq_true i
  | .str z, _ => by rw [PyData.eqv]; exact beq_self_eq_true z
  | .list xs, h => by rw [PyData.eqv]; exact eqvAll_same xs (by rw [PyData.canLay0] at h; exact h)
  | .tuple xs, h => by rw [PyData.eqv]; exact eqvAll_same xs (by rw [PyData.canLay0] at h; exact h)
  | .dict _, h => by rw [PyData.canLay0] at h; cases h
theorem eqvAll_same : ∀ xs : List D, PyData.canLayAll0 xs = true → PyData.eqvAll xs xs = true
  | [], _ => by rw [PyData.eqvAll]
  | x :: xs, h => by
    rw [PyData.canLayAll0, Bool.and_eq_true] at h
    rw [PyData.eqvAll, eqv_same x h.1, eqvAll_same xs h.2]; rfl
end
theorem eqs_int {i : Int} : Eqs 0 (.int i) := ⟨by rw [PyData.canLay0], by rw [PyData.depth]; exact Nat.le_refl _⟩
theorem eqs_bool {b : Bool} : Eqs 0 (.bool b) := ⟨by rw [PyData.canLay0], by rw [PyData.depth]; exact Nat.le_refl _⟩
theorem eqs_none : Eqs 0 .none := ⟨by rw [PyData.canLay0], by rw [PyData.depth]; exact Nat.le_refl _⟩
theorem eqs_str {z : Str} (h : PyData.strOk z = true) : Eqs 0 (.str z) := ⟨by rw [PyData.canLay0]; exact h, by rw [PyData.depth]; exact Nat.le_refl _⟩
theorem Eqs.mono {p q : Nat} {d : D} (h : Eqs p d) (k : p ≤ q) : Eqs q d := ⟨h.1, Nat.le_trans h.2 k⟩
theorem eqs_all {p : Nat} : ∀ {xs : List D}, (∀ d ∈ xs, Eqs p d) → PyData.canLayAll0 xs = true ∧ PyData.depthAll xs ≤ p
  | [], _ => ⟨by rw [PyData.canLayAll0], by rw [PyData.depthAll]; exact Nat.zero_le _⟩
  | x :: xs, h => by
    obtain ⟨a1, a2⟩ := h x (by simp)
    obtain ⟨b1, b2⟩ := eqs_all (xs := xs) fun d hd => h d (by simp [hd])
    exact ⟨by rw [PyData.canLayAll0, a1, b1]; rfl, by rw [PyData.depthAll]; exact Nat.max_le.mpr ⟨a2, b2⟩⟩
theorem eqs_list {p : Nat} {xs : List D} (h : ∀ d ∈ xs, Eqs p d) : Eqs (p + 1) (.list xs) := by
  obtain ⟨a, b⟩ := eqs_all h
  exact ⟨by rw [PyData.canLay0]; exact a, by rw [PyData.depth]; omega⟩
theorem eqs_tup {p : Nat} {xs : List D} (h : ∀ d ∈ xs, Eqs p d) : Eqs (p + 1) (.tuple xs) := by
  obtain ⟨a, b⟩ := eqs_all h
  exact ⟨by rw [PyData.canLay0]; exact a, by rw [PyData.depth]; omega⟩
theorem eqs_nL (xs : List Nat) : Eqs 1 (.list (nL xs)) := eqs_list fun d hd => by
  obtain ⟨x, _, rfl⟩ := List.mem_map.mp hd
  exact eqs_int
theorem Eqs.shaped {d : D} (h : Eqs 60 d) : SeqAt.shaped d = true := by
  unfold SeqAt.shaped
  rw [h.1, decide_eq_true (Nat.le_trans h.2 (by decide))]; rfl
theorem eqX_self {d : D} (h : Eqs 60 d) : eqX d d = some (.bool true) := by
  have hd : eqD d d = some (.bool true) := by
    unfold eqD
    rw [if_pos ⟨h.shaped, h.shaped⟩, eqv_same d h.1]
  unfold eqX
  cases d <;> first | exact hd | (simp only [eqP, decide_true]; done)
theorem neX_self {d : D} (h : Eqs 60 d) : neX d d = some (.bool false) := by
  have hd : neD d d = some (.bool false) := by
    unfold neD
    rw [if_pos ⟨h.shaped, h.shaped⟩, eqv_same d h.1]; rfl
  unfold neX
  cases d <;> first | exact hd | (simp only [eqP, decide_true]; rfl)
end Dl

set_option Elab.async false
set_option linter.all false
set_option maxRecDepth 100000
set_option maxHeartbeats 2000000
namespace Dl
open PySem PySem.Spec PyProof.Rows L2
/-! ### results whose lists are all new since the call -/
mutual
/-- v is the data d, its lists at S, its tuples anywhere -/
inductive DpN (K : PySem.W.Frag) (H : Hp) (S : List Addr) : V → PyData → Prop
  | non : DpN K H S .non .none
  | bl (b : Bool) : DpN K H S (.bl b) (.bool b)
  | int (i : Int) : DpN K H S (.int i) (.int i)
  | str (x : Str) : DpN K H S (.str x) (.str x)
  | lst {a : Addr} {xs : List V} {ds : List PyData} : a ∈ S → H a = some (.lst xs) → DpNs K H S xs ds → DpN K H S (.ref a) (.list ds)
  | tup {a : Addr} {xs : List V} {ds : List PyData} : SqT K H a xs → DpNs K H S xs ds → DpN K H S (.ref a) (.tuple ds)
inductive DpNs (K : PySem.W.Frag) (H : Hp) (S : List Addr) : List V → List PyData → Prop
  | nil : DpNs K H S [] []
  | cons {v : V} {vs : List V} {d : PyData} {ds : List PyData} : DpN K H S v d → DpNs K H S vs ds → DpNs K H S (v :: vs) (d :: ds)
end
/-- a list's object -/
def Lst (o : Option HO) : Prop := ∃ xs, o = some (.lst xs)
theorem Lst.ow {o : Option HO} (h : Lst o) : Ow o := by
  obtain ⟨xs, e⟩ := h
  exact ow_lst e
theorem rd_eq {H H' : Hp} {a : Addr} {u : HO} (e : H' a = H a) (h : Rd H a u) : Rd H' a u := by
  rcases h with h | ⟨o, h⟩
  · exact .inl (e.trans h)
  · exact .inr ⟨o, e.trans h⟩
theorem rd_lst {H : Hp} {a : Addr} {xs : List V} (h : Rd H a (.lst xs)) : Ow (H a) := by
  rcases h with h | ⟨o, h⟩
  · exact ow_lst h
  · exact ⟨by rw [h]; exact Option.some_ne_none _, by rw [h]; exact id⟩
theorem rd_tup {H : Hp} {a : Addr} {xs : List V} (h : Rd H a (.tup xs)) : isTp (H a) := by
  rcases h with h | ⟨o, h⟩ <;> (rw [h]; trivial)
mutual
theorem DpN.at' {K : PySem.W.Frag} {H H' : Hp} {S S' : List Addr} (h1 : ∀ a ∈ S, a ∈ S' ∧ H' a = H a) (h2 : ∀ a, isTp (H a) → H' a = H a) : ∀ (d : D) (v : V), DpN K H S v d → DpN K H' S' v d
  | .none, _, h => by cases h; exact .non
  | .bool b, _, h => by cases h; exact .bl b
  | .int i, _, h => by cases h; exact .int i
  | .str x, _, h => by cases h; exact .str x
  | .list ds, _, h => by
    cases h with
    | lst m hs ha => exact .lst (h1 _ m).1 ((h1 _ m).2.trans hs) (DpNs.at' h1 h2 ds _ ha)
  | .tuple ds, _, h => by
    cases h with
    | tup hs ha =>
      refine .tup ?_ (DpNs.at' h1 h2 ds _ ha)
      rcases hs with hs | hs
      · exact .inl (rd_eq (h2 _ (rd_tup hs)) hs)
      · exact .inr hs
  | .dict _, _, h => by cases h
theorem DpNs.at' {K : PySem.W.Frag} {H H' : Hp} {S S' : List Addr} (h1 : ∀ a ∈ S, a ∈ S' ∧ H' a = H a) (h2 : ∀ a, isTp (H a) → H' a = H a) : ∀ (ds : List D) (vs : List V), DpNs K H S vs ds → DpNs K H' S' vs ds
  | [], _, h => by cases h; exact .nil
  | d :: ds, _, h => by
    cases h with
    | cons a b => exact .cons (DpN.at' h1 h2 d _ a) (DpNs.at' h1 h2 ds _ b)
end
mutual
theorem DpN.on' {K : PySem.W.Frag} {H : Hp} {S : List Addr} : ∀ (d : D) (v : V), DpN K H S v d → Dp K H v d
  | .none, _, h => by cases h; exact .non
  | .bool b, _, h => by cases h; exact .bl b
  | .int i, _, h => by cases h; exact .int i
  | .str x, _, h => by cases h; exact .str x
  | .list ds, _, h => by
    cases h with
    | lst m hs ha => exact .lst hs (DpNs.on' ds _ ha)
  | .tuple ds, _, h => by
    cases h with
    | tup hs ha => exact .tup hs (DpNs.on' ds _ ha)
  | .dict _, _, h => by cases h
theorem DpNs.on' {K : PySem.W.Frag} {H : Hp} {S : List Addr} : ∀ (ds : List D) (vs : List V), DpNs K H S vs ds → DpAll K H vs ds
  | [], _, h => by cases h; exact .nil
  | d :: ds, _, h => by
    cases h with
    | cons a b => exact .cons (DpN.on' d _ a) (DpNs.on' ds _ b)
end
theorem DpN.on {K : PySem.W.Frag} {H : Hp} {S : List Addr} {v : V} {d : D} (h : DpN K H S v d) : Dp K H v d := DpN.on' d v h
theorem DpNs.on {K : PySem.W.Frag} {H : Hp} {S : List Addr} {v : List V} {d : List D} (h : DpNs K H S v d) : DpAll K H v d := DpNs.on' d v h
theorem DpN.at {K : PySem.W.Frag} {H H' : Hp} {S : List Addr} {v : V} {d : D} (h : DpN K H S v d) (h1 : ∀ a ∈ S, H' a = H a) (h2 : ∀ a, isTp (H a) → H' a = H a) : DpN K H' S v d := DpN.at' (fun a ha => ⟨ha, h1 a ha⟩) h2 d v h
theorem DpN.more {K : PySem.W.Frag} {H : Hp} {S S' : List Addr} {v : V} {d : D} (h : DpN K H S v d) (h1 : ∀ a ∈ S, a ∈ S') : DpN K H S' v d := DpN.at' (fun a ha => ⟨h1 a ha, rfl⟩) (fun _ _ => rfl) d v h
theorem DpNs.more {K : PySem.W.Frag} {H : Hp} {S S' : List Addr} {v : List V} {d : List D} (h : DpNs K H S v d) (h1 : ∀ a ∈ S, a ∈ S') : DpNs K H S' v d := DpNs.at' (fun a ha => ⟨h1 a ha, rfl⟩) (fun _ _ => rfl) d v h
mutual
/-- the lists that data stand on -/
theorem dp_fp {K : PySem.W.Frag} {G : Hp} : ∀ (d : D) (v : V), Dp K G v d → ∃ S : List Addr, (∀ a ∈ S, Lst (G a)) ∧ DpN K G S v d
  | .none, _, h => by cases h; exact ⟨[], fun _ z => absurd z List.not_mem_nil, .non⟩
  | .bool b, _, h => by cases h; exact ⟨[], fun _ z => absurd z List.not_mem_nil, .bl b⟩
  | .int i, _, h => by cases h; exact ⟨[], fun _ z => absurd z List.not_mem_nil, .int i⟩
  | .str x, _, h => by cases h; exact ⟨[], fun _ z => absurd z List.not_mem_nil, .str x⟩
  | .list ds, _, h => by
    cases h with
    | lst hs ha =>
      obtain ⟨S, s1, s2⟩ := dpa_fp ds _ ha
      rename_i a xs
      refine ⟨a :: S, fun b hb => ?_, .lst (by simp) hs (s2.more fun b hb => by simp [hb])⟩
      rcases List.mem_cons.mp hb with rfl | hb
      · exact ⟨xs, hs⟩
      · exact s1 b hb
  | .tuple ds, _, h => by
    cases h with
    | tup hs ha =>
      obtain ⟨S, s1, s2⟩ := dpa_fp ds _ ha
      exact ⟨S, s1, .tup hs s2⟩
  | .dict _, _, h => by cases h
theorem dpa_fp {K : PySem.W.Frag} {G : Hp} : ∀ (ds : List D) (vs : List V), DpAll K G vs ds → ∃ S : List Addr, (∀ a ∈ S, Lst (G a)) ∧ DpNs K G S vs ds
  | [], _, h => by cases h; exact ⟨[], fun _ z => absurd z List.not_mem_nil, .nil⟩
  | d :: ds, _, h => by
    cases h with
    | cons h1 h2 =>
      obtain ⟨S, s1, s2⟩ := dp_fp d _ h1
      obtain ⟨T, t1, t2⟩ := dpa_fp ds _ h2
      refine ⟨S ++ T, fun b hb => ?_, .cons (s2.more fun b hb => List.mem_append_left _ hb) (t2.more fun b hb => List.mem_append_right _ hb)⟩
      rcases List.mem_append.mp hb with hb | hb
      · exact s1 b hb
      · exact t1 b hb
end
/-- H's things at S, and its tuples, taken into G -/
noncomputable def adopt (G : Hp) (S : List Addr) (H : Hp) : Hp := open Classical in fun a => if a ∈ S ∨ isTp (H a) then H a else G a
theorem adopt_in {G H : Hp} {S : List Addr} {a : Addr} (h : a ∈ S ∨ isTp (H a)) : adopt G S H a = H a := if_pos h
theorem adopt_out {G H : Hp} {S : List Addr} {a : Addr} (h : ¬ (a ∈ S ∨ isTp (H a))) : adopt G S H a = G a := if_neg h
theorem ext_adopt {G H H' : Hp} {S : List Addr} (g : Same G H) (hh : Same H H') (hs : ∀ a ∈ S, H a = none) : Ext G H (adopt G S H') H' := by
  refine ⟨fun b o e => ?_, hh, fun b o e => ?_, fun p hp gp => ?_⟩
  · by_cases c : b ∈ S ∨ isTp (H' b)
    · rw [adopt_in c]; exact hh b o (g b o e)
    · rw [adopt_out c]; exact e
  · by_cases c : b ∈ S ∨ isTp (H' b)
    · rw [adopt_in c] at e; exact e
    · rw [adopt_out c] at e; exact hh b o (g b o e)
  · by_cases c : p ∈ S ∨ isTp (H' p)
    · rcases c with c | c
      · exact absurd (hs p c) hp
      · right; rw [adopt_in (.inr c)]; exact c
    · left; rw [adopt_out c]; exact gp
theorem dp_adopt {K : PySem.W.Frag} {G H : Hp} {S : List Addr} {v : V} {d : D} (h : DpN K H S v d) : Dp K (adopt G S H) v d := (h.at (fun a ha => adopt_in (.inl ha)) fun a ha => adopt_in (.inr ha)).on
/-- foreign data: they stand on the heap of the beginning -/
def Sl.fo (d : D) : Sl where
  sm := false
  v := fun K G o => ∃ v, o = some v ∧ Dp K G v d
  p := fun K H0 _ _ o S => S = [] ∧ ∃ v, o = some v ∧ Dp K H0 v d
  vm := fun g ⟨v, e, h⟩ => ⟨v, e, dp_mono g _ v h⟩
  pm := fun _ _ _ h => h
  pv := fun g _ ⟨_, v, e, h⟩ => ⟨v, e, dp_mono g _ v h⟩
  pe := fun h => by cases h
/-- new data, all of it one's own -/
def Sl.nu (d : D) : Sl where
  sm := false
  v := fun K G o => ∃ v, o = some v ∧ Dp K G v d
  p := fun K _ _ H o S => ∃ v, o = some v ∧ DpN K H S v d ∧ ∀ a ∈ S, Lst (H a)
  vm := fun g ⟨v, e, h⟩ => ⟨v, e, dp_mono g _ v h⟩
  pm := fun _ hs ht ⟨v, e, h, k⟩ => ⟨v, e, h.at hs ht, fun a ha => by rw [hs a ha]; exact k a ha⟩
  pv := fun _ _ ⟨v, e, h, _⟩ => ⟨v, e, h.on⟩
  pe := fun h => by cases h
/-- new things, no more known -/
def Sl.wa : Sl where
  sm := false
  v := fun _ _ _ => True
  p := fun _ _ _ _ _ _ => True
  vm := fun _ _ => trivial
  pm := fun _ _ _ _ => trivial
  pv := fun _ _ _ => trivial
  pe := fun h => by cases h
/-- what a def promises whose result's lists are all new -/
def spF (K : PySem.W.Frag) (m : List D → Option D) : Sp := fun vs H Q _ => ∃ (ds : List D) (d : D), DpAll K H vs ds ∧ m ds = some d ∧ ∀ v S H', Same H H' → (∀ a ∈ S, H a = none ∧ Lst (H' a)) → DpN K H' S v d → Q v H'
structure DfN (P : Program) (w : World) (K : PySem.W.Frag) (mg : Str → Option Value) (base : Heap) (k : Nat) (x : Str) (ps : List Str) (m : List D → Option D) : Prop where
  ex : ∃ f fd, mg x = some (.ref f) ∧ PySem.W.keepIn K (.ref f) = true ∧ Binds K fd ps [] ∧ FnOk P w K mg base CX0 k f fd ps (spF K m)
theorem spD_spF {K : PySem.W.Frag} {m : List D → Option D} {vs : List V} {H : Hp} {Q : VK} {E : XK} (h : spD K m vs H Q E) : spF K m vs H Q E := by
  obtain ⟨G, ds, d, g, ha, e, q⟩ := h
  exact ⟨ds, d, dpa_mono g _ _ ha, e, fun v S H' hh hs hd => q v _ H' (ext_adopt g hh fun a ha => (hs a ha).1) (dp_adopt hd)⟩
theorem DfN.df {P : Program} {w : World} {K : PySem.W.Frag} {mg : Str → Option Value} {base : Heap} {k : Nat} {x : Str} {ps : List Str} {m : List D → Option D} (d : DfN P w K mg base k x ps m) : Df P w K mg base k x ps m := by
  obtain ⟨f, fd, h1, h2, h3, h4⟩ := d.ex
  exact ⟨f, fd, h1, h2, h3, ⟨fun vs H Q E h => h4.1 vs H Q E (spD_spF h), fun A outer s H args us vs Q E hr he hb hv hs => h4.2 A outer s H args us vs Q E hr he hb hv (spD_spF hs)⟩⟩
def envF (n : Nat) (ds : List D) : En := ds.map Sl.fo ++ List.replicate (n - ds.length) Sl.un
abbrev noHp : Hp := fun _ => none
theorem ext_no {H : Hp} : Ext noHp H noHp H := ⟨Same.refl _, Same.refl _, fun _ _ e => (Option.some_ne_none _ e.symm).elim, fun _ _ e => .inl e⟩
theorem start_envF {K : PySem.W.Frag} {H : Hp} {vs : List V} {ds : List D} {N : List Str} (h : DpAll K H vs ds) (hn : ds.length ≤ N.length) :
    SS K (envF N.length ds) (L2.start N vs) noHp H noHp noHp H := by
  have hl := dpa_len h
  have nh : ∀ (i : Nat) (s : Sl), (envF N.length ds)[i]? = some s → (∃ d, ds[i]? = some d ∧ s = .fo d) ∨ s = .un := fun i s hs => by
    unfold envF at hs
    rcases Nat.lt_or_ge i ds.length with z | z
    · rw [List.getElem?_append_left (by simpa using z), List.getElem?_map, List.getElem?_eq_getElem z] at hs
      exact .inl ⟨ds[i], List.getElem?_eq_getElem z, by simpa using hs.symm⟩
    · rw [List.getElem?_append_right (by simpa using z)] at hs
      exact .inr (List.eq_of_mem_replicate (List.mem_of_getElem? hs))
  refine ⟨ext_no, Same.refl _, by unfold L2.start envF; simp [hl], fun _ => [], fun i s hs => ?_, fun i a h => absurd h List.not_mem_nil, fun i j a _ h => absurd h List.not_mem_nil⟩
  have hi : i < (L2.start N vs).length := by
    rcases Nat.lt_or_ge i (envF N.length ds).length with z | z
    · unfold envF at z; unfold L2.start; simp at z ⊢; omega
    · rw [List.getElem?_eq_none z] at hs; cases hs
  rcases nh i _ hs with ⟨d', e, rfl⟩ | rfl
  · obtain ⟨v, hv, r⟩ := dpa_get h e
    refine ⟨some v, ?_, rfl, v, rfl, r⟩
    have hi : i < vs.length := by
      rcases Nat.lt_or_ge i vs.length with z | z
      · exact z
      · rw [List.getElem?_eq_none z] at hv; cases hv
    unfold L2.start
    rw [List.getElem?_append_left (by simpa using hi), List.getElem?_map, hv]; rfl
  · exact ⟨_, List.getElem?_eq_getElem hi, rfl, trivial⟩
theorem fn_bodyF {K : PySem.W.Frag} {m : List D → Option D} {N : List Str} {t : TS} {vs : List V} {H : Hp} {Q : VK} {E : XK} (h : spF K m vs H Q E) (hn : ∀ ds d, m ds = some d → ds.length ≤ N.length)
    (hb : ∀ ds d, m ds = some d → ∃ (β : Type) (eb : β → En) (α : Type) (en : α → En) (o : Out α β), DS K (.no (RtS K)) (envF N.length ds) t en eb o ∧ o.run = some d) :
    t { nx := fun _ H' => Q .non H', rt := Q } (L2.start N vs) H := by
  obtain ⟨ds, d, ha, e, q⟩ := h
  obtain ⟨β, eb, α, en, o, hd, ho⟩ := hb ds d e
  have fin : ∀ v (G' H' : Hp), Ext noHp H G' H' → Dp K G' v d → Q v H' := fun v G' H' E hv => by
    obtain ⟨S, s1, s2⟩ := dp_fp d v hv
    have nw : ∀ a ∈ S, H a = none := fun a ha => by
      cases e : H a with
      | none => rfl
      | some u =>
        exfalso
        rcases E.nw a (by rw [e]; exact Option.some_ne_none _) rfl with z | z
        · exact (s1 a ha).ow.1 z
        · exact (s1 a ha).ow.2 z
    have same : ∀ a, G' a ≠ none → H' a = G' a := fun a h => by
      cases e : G' a with
      | none => exact absurd e h
      | some u => exact E.gh a u e
    exact q v S H' E.hh (fun a ha => ⟨nw a ha, by rw [same a (s1 a ha).ow.1]; exact s1 a ha⟩) (s2.at (fun a ha => same a (s1 a ha).ow.1) fun a ha => same a fun z => by rw [z] at ha; exact ha)
  refine hd _ noHp H noHp noHp H _ (start_envF ha (hn ds d e)) ?_
  cases o with
  | nx a => cases ho; exact fun σ G' H' s => fin .non G' H' s.ext .non
  | rt d' => cases ho; exact fun v G' H' r => fin v G' H' r.1 r.2
  | bk b => cases ho
  | ct b => cases ho
  | no => cases ho
  | xc x => cases ho
section
variable {P : Program} {w : World} {K : PySem.W.Frag} {mg : Str → Option Value} {base : Heap} {x qual : Str} {st : Stmt} {f : Addr} {fd : FuncData} {N ps : List Str} {k : Nat}
theorem dfN_mk {m : List D → Option D} (F : Fun K x qual st f fd) (S : FnScope N ps (defScope st)) (hm : mg x = some (.ref f)) (hb : Binds K fd ps []) (hl : ∀ ds d, m ds = some d → ds.length = ps.length) (hN : ps.length ≤ N.length)
    (body : ∀ (cdv : Value) (A : Around) (outer : List Env) (s : Shared) (H : Hp) (E : XK), Room k (A.deeper (envOfC qual (defScope st) s.heap.objs.size f cdv)) →
      ∃ t, PSs (cxOf CX0 P w K mg base N qual (defScope st) f cdv A outer s H E).nox (defBody st) t ∧
        ∀ ds d, m ds = some d → ∃ (β : Type) (eb : β → En) (α : Type) (en : α → En) (o : Out α β), DS K (.no (RtS K)) (envF N.length ds) t en eb o ∧ o.run = some d) : DfN P w K mg base (k + 1) x ps m := by
  refine ⟨f, fd, hm, F.kp, hb, ?_⟩
  refine F.ok S (fun vs H Q E h => ?_) fun cdv A outer s H vs Q E hr h => ?_
  · obtain ⟨ds, d, ha, e, _⟩ := h
    rw [dpa_len ha]; exact hl ds d e
  · obtain ⟨t, h1, h2⟩ := body cdv A outer s H E hr
    exact ⟨t, h1, fn_bodyF h (fun ds d e => by rw [hl ds d e]; exact hN) h2⟩
end
/-! #### expressions: e what all is seen on H, eG what stands on G -/
def DVX (K : PySem.W.Frag) (e eG : En) (t : TE) (r : Option D) : Prop := ∀ σ (G H : Hp) (Q : VK) d, SE K e σ H → SE K eG σ G → Same G H → r = some d → (∀ v G' H', Ext G H G' H' → Dp K G' v d → Q v H') → t σ H Q
def DAX (K : PySem.W.Frag) (e eG : En) (t : TA) (r : Option (List D)) : Prop := ∀ σ (G H : Hp) (Q : List V → Hp → Prop) ds, SE K e σ H → SE K eG σ G → Same G H → r = some ds → (∀ vs G' H', Ext G H G' H' → DpAll K G' vs ds → Q vs H') → t σ H Q
def DLX (K : PySem.W.Frag) (e eG : En) (t : TE) (r : Option (List D)) : Prop := ∀ σ (G H : Hp) (Q : VK) ds, SE K e σ H → SE K eG σ G → Same G H → r = some ds → (∀ p xs G' H', Ext G H G' H' → H p = none → G' p = none → H' p = some (.lst xs) → DpAll K G' xs ds → Q (.ref p) H') → t σ H Q
mutual
/-- data without a list -/
def flat : D → Bool
  | .tuple xs => flatA xs
  | .list _ => false
  | .dict _ => false
  | _ => true
def flatA : List D → Bool
  | [] => true
  | x :: xs => flat x && flatA xs
end
mutual
theorem dp_ft {K : PySem.W.Frag} {H G : Hp} (hg : ∀ a, isTp (H a) → G a = H a) : ∀ (d : D) (v : V), flat d = true → Dp K H v d → Dp K G v d
  | .none, _, _, h => by cases h; exact .non
  | .bool b, _, _, h => by cases h; exact .bl b
  | .int i, _, _, h => by cases h; exact .int i
  | .str x, _, _, h => by cases h; exact .str x
  | .list _, _, e, _ => by rw [flat] at e; cases e
  | .dict _, _, e, _ => by rw [flat] at e; cases e
  | .tuple ds, _, e, h => by
    rw [flat] at e
    cases h with
    | tup hs ha =>
      refine .tup ?_ (dpa_ft hg ds _ e ha)
      rcases hs with hs | hs
      · exact .inl (rd_eq (hg _ (rd_tup hs)) hs)
      · exact .inr hs
theorem dpa_ft {K : PySem.W.Frag} {H G : Hp} (hg : ∀ a, isTp (H a) → G a = H a) : ∀ (ds : List D) (vs : List V), flatA ds = true → DpAll K H vs ds → DpAll K G vs ds
  | [], _, _, h => by cases h; exact .nil
  | d :: ds, _, e, h => by
    rw [flatA, Bool.and_eq_true] at e
    cases h with
    | cons h1 h2 => exact .cons (dp_ft hg d _ e.1 h1) (dpa_ft hg ds _ e.2 h2)
end
def flatO (r : Option D) : Option D := r.bind fun d => if flat d = true then some d else none
def flatsO (r : Option (List D)) : Option (List D) := r.bind fun ds => if flatA ds = true then some ds else none
theorem flatO_some {r : Option D} {d : D} (h : flatO r = some d) : r = some d ∧ flat d = true := by
  obtain ⟨x, e1, e2⟩ := bind_some h
  by_cases z : flat x = true
  · rw [if_pos z] at e2; cases e2; exact ⟨e1, z⟩
  · rw [if_neg z] at e2; cases e2
theorem flatsO_some {r : Option (List D)} {d : List D} (h : flatsO r = some d) : r = some d ∧ flatA d = true := by
  obtain ⟨x, e1, e2⟩ := bind_some h
  by_cases z : flatA x = true
  · rw [if_pos z] at e2; cases e2; exact ⟨e1, z⟩
  · rw [if_neg z] at e2; cases e2
theorem adopt_tp {G H : Hp} : ∀ a, isTp (H a) → adopt G [] H a = H a := fun a h => adopt_in (.inr h)
theorem ext_flat {G H H' : Hp} (g : Same G H) (hh : Same H H') : Ext G H (adopt G [] H') H' := ext_adopt g hh fun _ h => absurd h List.not_mem_nil
section
variable {K : PySem.W.Frag} {e eG : En} {ta te : TE} {tt : TT} {tA : TA} {ra rb : Option D} {rt : Option Bool} {rA : Option (List D)}
theorem dv_varF (i : Nat) {d : D} (h : e[i]? = some (Sl.fo d) := by rfl) : DV K e (tVar i) (some d) := fun σ G H Q x s g z q => by
  cases z
  obtain ⟨o, h1, v, rfl, h2⟩ := s.at' i _ h
  exact ⟨v, h1, q v G H (Ext.refl g) h2⟩
theorem dv_varN (i : Nat) {d : D} (h : e[i]? = some (Sl.nu d) := by rfl) : DV K e (tVar i) (some d) := fun σ G H Q x s g z q => by
  cases z
  obtain ⟨o, h1, v, rfl, h2⟩ := s.at' i _ h
  exact ⟨v, h1, q v G H (Ext.refl g) h2⟩
theorem dvx_sh (h : DV K eG te ra) : DVX K e eG te ra := fun σ G H Q d _ s g z q => h σ G H Q d s g z q
theorem dvx_fl (h : DV K e te ra) : DVX K e eG te (flatO ra) := fun σ G H Q d s _ g z q => by
  obtain ⟨e1, e2⟩ := flatO_some z
  exact h σ H H _ d s (Same.refl H) e1 fun v G' H' E hd => q v _ H' (ext_flat g E.hh) (dp_ft adopt_tp d v e2 (dp_mono E.gh _ v hd))
theorem dvx_call {m : List D → Option D} {E : XK} (h : DA K e tA rA) : DVX K e eG (tCall (spF K m) [] E tA) (rA.bind m) := fun σ G H Q d s _ g z q => by
  obtain ⟨ds, e1, e2⟩ := bind_some z
  refine h σ H H _ ds s (Same.refl H) e1 fun vs G1 H1 E1 h1 => ?_
  refine ⟨ds, d, by rw [List.append_nil]; exact dpa_mono E1.gh _ _ h1, e2, fun v S H' hh hs hd => ?_⟩
  exact q v _ H' (ext_adopt g (E1.hh.trans hh) fun a ha => E1.hh.free (hs a ha).1) (dp_adopt hd)
theorem dlx_fl (h : DL K e te rA) : DLX K e eG te (flatsO rA) := fun σ G H Q d s _ g z q => by
  obtain ⟨e1, e2⟩ := flatsO_some z
  refine h σ H H _ d s (Same.refl H) e1 fun p xs G' H' E hp gp hl hd => ?_
  refine q p xs _ H' (ext_flat g E.hh) hp ?_ hl (dpa_ft adopt_tp d xs e2 (dpa_mono E.gh _ _ hd))
  rw [adopt_out (fun z => by rcases z with z | z; exact absurd z List.not_mem_nil; rw [hl] at z; exact z)]
  exact g.free hp
theorem dlx_sh (h : DL K eG te rA) : DLX K e eG te rA := fun σ G H Q d _ s g z q => h σ G H Q d s g z q
theorem dvx_new (h : DLX K e eG te rA) : DVX K e eG te (newO rA) := fun σ G H Q d s1 s2 g z q => by
  obtain ⟨ds, e1, e2⟩ := bind_some z
  cases e2
  refine h σ G H Q ds s1 s2 g e1 fun p xs G1 H1 E hp gp hl hd => ?_
  refine q (.ref p) (upd G1 p (.lst xs)) H1 ⟨E.gg.trans (same_upd gp), E.hh, fun b o eb => ?_, fun a ha ga => ?_⟩ (.lst upd_same (dpa_mono (same_upd gp) ds xs hd))
  · by_cases z : b = p
    · subst z; rw [upd_same] at eb; rw [hl]; exact eb
    · rw [upd_ne z] at eb; exact E.gh b o eb
  · have z : a ≠ p := fun z => ha (by rw [z]; exact hp)
    rw [upd_ne z]; exact E.nw a ha ga
theorem dax_nil : DAX K e eG tNil (some []) := fun σ G H Q x _ _ g z q => by
  cases z; exact q [] G H (Ext.refl g) .nil
theorem dax_cons (ha : DVX K e eG ta ra) (hr : DAX K e eG tA rA) : DAX K e eG (tCons ta tA) (consO ra rA) := fun σ G H Q d s1 s2 g z q => by
  obtain ⟨x, ex, z⟩ := bind_some z
  obtain ⟨xs, exs, z⟩ := bind_some z
  cases z
  refine ha σ G H _ x s1 s2 g ex fun v G1 H1 E1 h1 => ?_
  refine hr σ G1 H1 _ xs (s1.mono E1.hh) (s2.mono E1.gg) E1.gh exs fun vs G2 H2 E2 h2 => ?_
  exact q (v :: vs) G2 H2 (E1.trans E2) (.cons (dp_mono E2.gg x v h1) h2)
theorem dvx_tup (h : DAX K e eG tA rA) : DVX K e eG (tTup tA) (rA.bind tupD) := fun σ G H Q d s1 s2 g z q => by
  obtain ⟨ds, e1, e2⟩ := bind_some z
  unfold tupD at e2
  by_cases hz : ds.length ≤ sizeLine
  · rw [if_pos hz] at e2; cases e2
    refine h σ G H _ ds s1 s2 g e1 fun vs G1 H1 E1 h1 => ⟨by rw [dpa_len h1]; exact hz, fun p hp => ?_⟩
    have gp : G1 p = none := E1.gh.free hp
    exact q (.ref p) (upd G1 p (.tup vs)) _ (E1.trans (Ext.new E1.gh hp)) (.tup (.inl (.inl upd_same)) (dpa_mono (same_upd gp) ds vs h1))
  · rw [if_neg hz] at e2; cases e2
theorem dlx_lst (h : DAX K e eG tA rA) : DLX K e eG (tLst tA) (rA.bind szL) := fun σ G H Q d s1 s2 g z q => by
  obtain ⟨ds, e1, e2⟩ := bind_some z
  unfold szL at e2
  by_cases hz : ds.length ≤ sizeLine
  · rw [if_pos hz] at e2; cases e2
    refine h σ G H _ d s1 s2 g e1 fun vs G1 H1 E1 h1 => ⟨by rw [dpa_len h1]; exact hz, fun p hp => ?_⟩
    have gp : G1 p = none := E1.gh.free hp
    exact q p vs G1 _ (E1.trans (Ext.own E1.gh hp)) (E1.hh.free hp) gp upd_same h1
  · rw [if_neg hz] at e2; cases e2
theorem dvx_ite {tb : TE} (c : DT K e tt rt) (h : DVX K e eG ta ra) (k : DVX K e eG tb rb) : DVX K e eG (tIf tt ta tb) (iteV rt ra rb) := fun σ G H Q d s1 s2 g z q => by
  obtain ⟨b, eb, z⟩ := bind_some z
  refine c σ H H _ b s1 (Same.refl H) eb fun G' H1 E1 => ?_
  have E : Ext G H G H1 := ⟨Same.refl G, E1.hh, g.trans E1.hh, fun _ _ z => .inl z⟩
  cases b with
  | true => rw [if_pos rfl] at z ⊢; exact h σ G H1 Q d (s1.mono E1.hh) s2 E.gh z fun v G2 H2 E2 h2 => q v G2 H2 (E.trans E2) h2
  | false => rw [if_neg Bool.false_ne_true] at z ⊢; exact k σ G H1 Q d (s1.mono E1.hh) s2 E.gh z fun v G2 H2 E2 h2 => q v G2 H2 (E.trans E2) h2
end
end Dl

set_option Elab.async false
set_option linter.all false
set_option maxRecDepth 100000
set_option maxHeartbeats 2000000
namespace Dl
open PySem PySem.Spec PyProof.Rows L2
theorem wipeE_len (env : En) : ∀ vs : List Nat, (wipeE env vs).length = env.length
  | [] => rfl
  | v :: vs => by unfold wipeE; rw [List.length_set, wipeE_len env vs]
theorem wipeE_un {env : En} {i : Nat} {s : Sl} : ∀ {vs : List Nat}, i ∈ vs → (wipeE env vs)[i]? = some s → s = .un
  | [], h, _ => absurd h List.not_mem_nil
  | v :: vs, h, e => by
    unfold wipeE at e
    rcases set_some e with ⟨_, e2, _⟩ | ⟨ne, e2⟩
    · exact e2
    · rcases List.mem_cons.mp h with rfl | h
      · exact absurd rfl ne
      · exact wipeE_un h e2
theorem SE.keep {K : PySem.W.Frag} {e : En} {σ σ2 : L2.St} {G : Hp} {ts : List Nat} (s : SE K e σ G) (hl : σ2.length = σ.length) (h1 : ∀ i, i ∉ ts → σ2[i]? = σ[i]?) (h2 : ∀ i ∈ ts, ∀ sl : Sl, e[i]? = some sl → sl = .un) : SE K e σ2 G := by
  refine ⟨by rw [hl]; exact s.len, fun i sl h => ?_⟩
  by_cases c : i ∈ ts
  · have := h2 i c sl h
    subst this
    obtain ⟨o, k1, _⟩ := s.at' i _ h
    have hi : i < σ2.length := by
      rw [hl]
      rcases Nat.lt_or_ge i σ.length with z | z
      · exact z
      · rw [List.getElem?_eq_none z] at k1; cases k1
    exact ⟨σ2[i], List.getElem?_eq_getElem hi, trivial⟩
  · obtain ⟨o, k1, k2⟩ := s.at' i sl h
    exact ⟨o, (h1 i c).trans k1, k2⟩
theorem dlx_lc {K : PySem.W.Frag} {e eG : En} {wi : TI} {g : TG} {tt : TT} {te : TE} {vs ts : List Nat} {rI : Option (List D)} {b : En → D → Option En} {c : D → Option Bool} {f : D → Option D}
    (hi : DI K e wi rI) (hg : BG K g ts b) (hts : ∀ i ∈ ts, i ∈ vs)
    (hc : ∀ x env', b (wipeE e vs) x = some env' → DT K env' tt (c x)) (hf : ∀ x env', b (wipeE e vs) x = some env' → DVX K env' (wipeE eG vs) te (f x)) (hb : ∀ x y, c x = some y → ∃ env', b (wipeE e vs) x = some env') :
    DLX K e eG (tLc wi g tt te vs) (rI.bind (lcZ c f)) := fun σ G H Q out s sG gh z q => by
  obtain ⟨ds, e1, e2⟩ := bind_some z
  unfold lcZ at e2
  by_cases hz : ds.length ≤ sizeLine
  · rw [if_pos hz] at e2
    refine hi σ H H _ ds s (Same.refl H) e1 fun J G1 H1 E1 ok => ?_
    have E0 : Ext G H G H1 := ⟨Same.refl G, E1.hh, gh.trans E1.hh, fun _ _ z => .inl z⟩
    intro Dd hD
    have gD : G Dd = none := E0.gh.free hD
    refine ⟨fun i m H2 => i ≤ ds.length ∧ m = ds.length - i ∧ ∃ (G2 : Hp) (acc : List V) (as rest : List D), Ext G H1 G2 H2 ∧ H2 Dd = some (.lst acc) ∧ G2 Dd = none ∧ DpAll K G2 acc as ∧ as.length ≤ i ∧ lcD c f (ds.drop i) = some rest ∧ as ++ rest = out,
      ⟨ds.length, Nat.zero_le _, by omega, G, [], [], out, Ext.own E0.gh hD, upd_same, gD, .nil, Nat.le_refl _, by simpa using e2, rfl⟩, ?_⟩
    rintro i m H2 ⟨hi2, rfl, G2, acc, as, rest, E2, hacc, gD2, hd, hl, hr, ho⟩
    have g12 : Same G1 H2 := E1.gh.trans E2.hh
    by_cases hlt : i < ds.length
    · right
      refine ⟨ok.go H2 H2 i g12 (Same.refl H2) hlt, fun H3 => ∃ m', m' < ds.length - i ∧ (i + 1 ≤ ds.length ∧ m' = ds.length - (i + 1) ∧ ∃ (G2 : Hp) (acc : List V) (as rest : List D), Ext G H1 G2 H3 ∧ H3 Dd = some (.lst acc) ∧ G2 Dd = none ∧ DpAll K G2 acc as ∧ as.length ≤ i + 1 ∧ lcD c f (ds.drop (i + 1)) = some rest ∧ as ++ rest = out), fun H3 h => h, fun x H3 hy => ?_⟩
      have hget : ds[i]? = some ds[i] := List.getElem?_eq_getElem hlt
      obtain ⟨G3', E3', hx'⟩ := ok.yl H2 H2 i x H3 ds[i] g12 (Same.refl H2) hget hy
      have hx : Dp K H3 x ds[i] := dp_mono E3'.gh _ _ hx'
      have E3 : Ext G2 H2 G2 H3 := ⟨Same.refl G2, E3'.hh, E2.gh.trans E3'.hh, fun _ _ z => .inl z⟩
      rw [drop_cons hlt] at hr
      unfold lcD at hr
      obtain ⟨bb, ec, hr⟩ := bind_some hr
      obtain ⟨env', eb⟩ := hb ds[i] bb ec
      have hH3 : H3 Dd = some (.lst acc) := E3.hh _ _ hacc
      have sH3 : SE K (wipeE e vs) (L2.wipe σ vs) H3 := (s.wipe vs).mono ((E1.hh.trans E2.hh).trans E3.hh)
      refine hg (wipeE e vs) env' (L2.wipe σ vs) H3 H3 x ds[i] _ sH3 (Same.refl H3) hx eb fun σ2 s2 w2 f2 => ?_
      have hw := (w2 vs hts).trans wipe_idem
      refine ⟨hw, ?_⟩
      have hlen : σ2.length = (L2.wipe σ vs).length := by
        have := congrArg List.length (w2 vs hts)
        rwa [wipe_length, wipe_length] at this
      have sG2 : SE K (wipeE eG vs) σ2 G2 := ((sG.wipe vs).mono E2.gg).keep hlen (fun i hi => (f2 i hi).1) fun i hi sl h => wipeE_un (hts i hi) h
      refine hc ds[i] env' eb σ2 H3 H3 _ bb s2 (Same.refl H3) ec fun G4' H4 E4' => ?_
      have E4 : Ext G2 H3 G2 H4 := ⟨Same.refl G2, E4'.hh, E3.gh.trans E4'.hh, fun _ _ z => .inl z⟩
      have hH4 : H4 Dd = some (.lst acc) := E4.hh _ _ hH3
      have E14 := (E2.trans E3).trans E4
      cases bb with
      | true =>
        rw [if_pos rfl] at hr ⊢
        obtain ⟨y, ey, hr⟩ := bind_some hr
        obtain ⟨ys, eys, hr⟩ := bind_some hr
        cases hr
        refine hf ds[i] env' eb σ2 G2 H4 _ y (s2.mono E4.hh) sG2 E4.gh ey fun v G5 H5 E5 h5 => ?_
        have hH5 : H5 Dd = some (.lst acc) := E5.hh _ _ hH4
        have gD5 : G5 Dd = none := E5.nwL hH4 gD2
        have E15 := E14.trans E5
        have hlen := dpa_len hd
        refine ⟨acc, hH5, by omega, ds.length - (i + 1), by omega, by omega, rfl, G5, acc ++ [v], as ++ [y], ys, ?_, upd_same, gD5, dpa_app (dpa_mono E5.gg _ _ hd) (dpa_one h5), ?_, eys, by rw [← ho, List.append_assoc]; rfl⟩
        · refine ⟨E15.gg, fun bq o eq => ?_, fun bq o eq => ?_, E15.nw⟩
          · have : bq ≠ Dd := ne_of_none eq hD
            rw [upd_ne this]; exact E15.hh bq o eq
          · have : bq ≠ Dd := ne_of_none eq gD5
            rw [upd_ne this]; exact E15.gh bq o eq
        · rw [List.length_append]; simp; omega
      | false =>
        rw [if_neg Bool.false_ne_true] at hr ⊢
        exact ⟨ds.length - (i + 1), by omega, by omega, rfl, G2, acc, as, rest, E14, hH4, gD2, hd, by omega, hr, ho⟩
    · left
      have ei : i = ds.length := by omega
      subst ei
      rw [List.drop_length] at hr
      cases hr
      rw [List.append_nil] at ho
      subst ho
      exact ⟨ok.stop H2 H2 _ g12 (Same.refl H2) (Nat.le_refl _), q Dd acc G2 H2 (E0.trans E2) (E0.hh.free hD) gD2 hacc hd⟩
  · rw [if_neg hz] at e2; cases e2
/-! targets of a comprehension or a loop -/
abbrev bN (i : Nat) : En → D → Option En := fun env x => some (env.set i (.sh x))
def threeD {β : Type} (x : D) (k : D → D → D → β) (no : β) : β := match x with
  | .tuple [a, b, c] => k a b c
  | _ => no
theorem key1 {i : Nat} {env env' : En} {x : D} (h : bN i env x = some env') : env' = env.set i (.sh x) := by cases h; rfl
theorem key2 {i j : Nat} {env env' : En} {x : D} (h : bTup 2 (bCons (bN i) (bCons (bN j) bNil)) env x = some env') : ∃ a b, x = .tuple [a, b] ∧ env' = (env.set i (.sh a)).set j (.sh b) := by
  match x, h with
  | .tuple [a, b], h => cases h; exact ⟨a, b, rfl, rfl⟩
  | .tuple [], h => cases h
  | .tuple [a], h => cases h
  | .tuple (a :: b :: c :: r), h => unfold bTup at h; simp at h
theorem key3 {i j k : Nat} {env env' : En} {x : D} (h : bTup 3 (bCons (bN i) (bCons (bN j) (bCons (bN k) bNil))) env x = some env') : ∃ a b c, x = .tuple [a, b, c] ∧ env' = ((env.set i (.sh a)).set j (.sh b)).set k (.sh c) := by
  match x, h with
  | .tuple [a, b, c], h => cases h; exact ⟨a, b, c, rfl, rfl⟩
  | .tuple [], h => cases h
  | .tuple [a], h => cases h
  | .tuple [a, b], h => cases h
  | .tuple (a :: b :: c :: d :: r), h => unfold bTup at h; simp at h
theorem keyE {i j k l : Nat} {env env' : En} {x : D} (h : bTup 2 (bCons (bN i) (bCons (bTup 3 (bCons (bN j) (bCons (bN k) (bCons (bN l) bNil)))) bNil)) env x = some env') :
    ∃ a b c d, x = .tuple [a, .tuple [b, c, d]] ∧ env' = (((env.set i (.sh a)).set j (.sh b)).set k (.sh c)).set l (.sh d) := by
  match x, h with
  | .tuple [a, y], h =>
    have h' : ((bTup 3 (bCons (bN j) (bCons (bN k) (bCons (bN l) bNil)))) (env.set i (.sh a)) y).bind (fun env' => bNil env' []) = some env' := h
    obtain ⟨e2, h1, h2⟩ := bind_some h'
    obtain ⟨b, c, d, rfl, rfl⟩ := key3 h1
    cases h2
    exact ⟨a, b, c, d, rfl, rfl⟩
  | .tuple [], h => cases h
  | .tuple [a], h => cases h
  | .tuple (a :: b :: c :: r), h => unfold bTup at h; simp at h
section
variable {K : PySem.W.Frag} {e eG : En} {wi : TI} {tt : TT} {te : TE} {vs : List Nat} {i j k l : Nat} {rI : Option (List D)}
theorem dlx_lcN {c : D → Option Bool} {f : D → Option D} (hi : DI K e wi rI) (hc : ∀ x, DT K ((wipeE e vs).set j (.sh x)) tt (c x)) (hf : ∀ x, DVX K ((wipeE e vs).set j (.sh x)) (wipeE eG vs) te (f x)) (hts : j ∈ vs := by decide) :
    DLX K e eG (tLc wi (gName j) tt te vs) (rI.bind (lcZ c f)) :=
  dlx_lc hi (bg_name j) (by intro i hi; simp at hi; subst hi; exact hts) (fun x env' h => by rw [key1 h]; exact hc x) (fun x env' h => by rw [key1 h]; exact hf x) fun x y _ => ⟨_, rfl⟩
theorem dlx_lc3 {c : D → D → D → Option Bool} {f : D → D → D → Option D} (hi : DI K e wi rI)
    (hc : ∀ x y z, DT K ((((wipeE e vs).set i (.sh x)).set j (.sh y)).set k (.sh z)) tt (c x y z)) (hf : ∀ x y z, DVX K ((((wipeE e vs).set i (.sh x)).set j (.sh y)).set k (.sh z)) (wipeE eG vs) te (f x y z)) (hts : i ∈ vs ∧ j ∈ vs ∧ k ∈ vs := by decide) :
    DLX K e eG (tLc wi (gTup K 3 (gCons (gName i) (gCons (gName j) (gCons (gName k) gNil)))) tt te vs) (rI.bind (lcZ (fun x => threeD x c none) (fun x => threeD x f none))) := by
  refine dlx_lc hi (bg_tup (bgs_cons (bg_name i) (bgs_cons (bg_name j) (bgs_cons (bg_name k) bgs_nil)))) (by intro n hn; simp at hn; rcases hn with rfl | rfl | rfl; exact hts.1; exact hts.2.1; exact hts.2.2) (fun x env' h => ?_) (fun x env' h => ?_) fun x y h => ?_
  · obtain ⟨a, b, d, rfl, rfl⟩ := key3 h; exact hc a b d
  · obtain ⟨a, b, d, rfl, rfl⟩ := key3 h; exact hf a b d
  · unfold threeD at h
    split at h
    · exact ⟨_, rfl⟩
    · cases h
theorem dlx_lcE {c : D → D → D → D → Option Bool} {f : D → D → D → D → Option D} (hi : DI K e wi rI)
    (hc : ∀ x y z w, DT K (((((wipeE e vs).set i (.sh x)).set j (.sh y)).set k (.sh z)).set l (.sh w)) tt (c x y z w)) (hf : ∀ x y z w, DVX K (((((wipeE e vs).set i (.sh x)).set j (.sh y)).set k (.sh z)).set l (.sh w)) (wipeE eG vs) te (f x y z w)) (hts : i ∈ vs ∧ j ∈ vs ∧ k ∈ vs ∧ l ∈ vs := by decide) :
    DLX K e eG (tLc wi (gTup K 2 (gCons (gName i) (gCons (gTup K 3 (gCons (gName j) (gCons (gName k) (gCons (gName l) gNil)))) gNil))) tt te vs) (rI.bind (lcZ (fun x => twoD x (fun a y => threeD y (c a) none) none) (fun x => twoD x (fun a y => threeD y (f a) none) none))) := by
  refine dlx_lc hi (bg_tup (bgs_cons (bg_name i) (bgs_cons (bg_tup (bgs_cons (bg_name j) (bgs_cons (bg_name k) (bgs_cons (bg_name l) bgs_nil)))) bgs_nil))) (by intro n hn; simp at hn; rcases hn with rfl | rfl | rfl | rfl; exact hts.1; exact hts.2.1; exact hts.2.2.1; exact hts.2.2.2) (fun x env' h => ?_) (fun x env' h => ?_) fun x y h => ?_
  · obtain ⟨a, b, d, d', rfl, rfl⟩ := keyE h; exact hc a b d d'
  · obtain ⟨a, b, d, d', rfl, rfl⟩ := keyE h; exact hf a b d d'
  · unfold twoD at h
    split at h
    · dsimp only at h
      unfold threeD at h
      split at h
      · exact ⟨_, rfl⟩
      · cases h
    · cases h
theorem dl_lc3 {env : En} {c : D → D → D → Option Bool} {f : D → D → D → Option D} (hi : DI K env wi rI)
    (hc : ∀ x y z, DT K ((((wipeE env vs).set i (.sh x)).set j (.sh y)).set k (.sh z)) tt (c x y z)) (hf : ∀ x y z, DV K ((((wipeE env vs).set i (.sh x)).set j (.sh y)).set k (.sh z)) te (f x y z)) (hts : i ∈ vs ∧ j ∈ vs ∧ k ∈ vs := by decide) :
    DL K env (tLc wi (gTup K 3 (gCons (gName i) (gCons (gName j) (gCons (gName k) gNil)))) tt te vs) (rI.bind (lcZ (fun x => threeD x c none) (fun x => threeD x f none))) := by
  refine dl_lc hi (bg_tup (bgs_cons (bg_name i) (bgs_cons (bg_name j) (bgs_cons (bg_name k) bgs_nil)))) (by intro n hn; simp at hn; rcases hn with rfl | rfl | rfl; exact hts.1; exact hts.2.1; exact hts.2.2) (fun x env' h => ?_) (fun x env' h => ?_) fun x y h => ?_
  · obtain ⟨a, b, d, rfl, rfl⟩ := key3 h; exact hc a b d
  · obtain ⟨a, b, d, rfl, rfl⟩ := key3 h; exact hf a b d
  · unfold threeD at h
    split at h
    · exact ⟨_, rfl⟩
    · cases h
theorem dl_lcE {env : En} {c : D → D → D → D → Option Bool} {f : D → D → D → D → Option D} (hi : DI K env wi rI)
    (hc : ∀ x y z w, DT K (((((wipeE env vs).set i (.sh x)).set j (.sh y)).set k (.sh z)).set l (.sh w)) tt (c x y z w)) (hf : ∀ x y z w, DV K (((((wipeE env vs).set i (.sh x)).set j (.sh y)).set k (.sh z)).set l (.sh w)) te (f x y z w)) (hts : i ∈ vs ∧ j ∈ vs ∧ k ∈ vs ∧ l ∈ vs := by decide) :
    DL K env (tLc wi (gTup K 2 (gCons (gName i) (gCons (gTup K 3 (gCons (gName j) (gCons (gName k) (gCons (gName l) gNil)))) gNil))) tt te vs) (rI.bind (lcZ (fun x => twoD x (fun a y => threeD y (c a) none) none) (fun x => twoD x (fun a y => threeD y (f a) none) none))) := by
  refine dl_lc hi (bg_tup (bgs_cons (bg_name i) (bgs_cons (bg_tup (bgs_cons (bg_name j) (bgs_cons (bg_name k) (bgs_cons (bg_name l) bgs_nil)))) bgs_nil))) (by intro n hn; simp at hn; rcases hn with rfl | rfl | rfl | rfl; exact hts.1; exact hts.2.1; exact hts.2.2.1; exact hts.2.2.2) (fun x env' h => ?_) (fun x env' h => ?_) fun x y h => ?_
  · obtain ⟨a, b, d, d', rfl, rfl⟩ := keyE h; exact hc a b d d'
  · obtain ⟨a, b, d, d', rfl, rfl⟩ := keyE h; exact hf a b d d'
  · unfold twoD at h
    split at h
    · dsimp only at h
      unfold threeD at h
      split at h
      · exact ⟨_, rfl⟩
      · cases h
    · cases h
end
/-! #### statements -/
section
variable {K : PySem.W.Frag} {M : Md} {env : En} {te : TE} {tA : TA} {ra : Option D} {rA rI : Option (List D)} {α β : Type} {en : α → En} {eb : β → En}
theorem ds_retF (h : DVX K env (noOw env) te ra) (hM : M.R = RtS K := by rfl) : DS K M env (tRet te) en eb (toR ra : Out α β) := fun σ G0 H0 B G H T s q => by
  cases ra with
  | none => exact q.elim
  | some d => exact h σ G H _ d s.all s.shd s.ext.gh rfl fun v G' H' E hd => q v G' H' (by rw [hM]; exact ⟨s.ext.trans E, hd⟩)
theorem ds_setF {i : Nat} (h : DVX K env (noOw env) te ra) : DS K M env (tAsg te (gName i)) (fun d => env.set i (.sh d)) eb (toO ra) := fun σ G0 H0 B G H T s q => by
  cases ra with
  | none => exact q.elim
  | some d => exact h σ G H _ d s.all s.shd s.ext.gh rfl fun v G' H' E hd => q _ G' H' ((s.ext' E).set i hd)
theorem ds_setLF {i : Nat} (h : DLX K env (noOw env) te rA) : DS K M env (tAsg te (gName i)) (fun ds => env.set i (.ow ds)) eb (toO rA) := fun σ G0 H0 B G H T s q => by
  cases rA with
  | none => exact q.elim
  | some ds => exact h σ G H _ ds s.all s.shd s.ext.gh rfl fun p xs G' H' E hp gp hl hd => q _ G' H' (s.newO E i hp gp hl hd)
/-- x = f(..), the result all new -/
theorem ds_setN {i : Nat} {m : List D → Option D} {E : XK} (h : DA K env tA rA) : DS K M env (tAsg (tCall (spF K m) [] E tA) (gName i)) (fun d => env.set i (.nu d)) eb (toO (rA.bind m)) := fun σ G0 H0 B G H T s q => by
  cases e : rA.bind m with
  | none => rw [e] at q; exact q.elim
  | some d =>
    rw [e] at q
    obtain ⟨ds, e1, e2⟩ := bind_some e
    refine h σ H H _ ds s.all (Same.refl H) e1 fun vs G1 H1 E1 h1 => ?_
    refine ⟨ds, d, by rw [List.append_nil]; exact dpa_mono E1.gh _ _ h1, e2, fun v S H' hh hs hd => ?_⟩
    have HH : Same H H' := E1.hh.trans hh
    refine q _ G H' (s.put ⟨Same.refl G, HH, s.ext.gh.trans HH, fun _ _ z => .inl z⟩ (sl := .nu d) (S := S) i ⟨v, rfl, hd, fun a ha => (hs a ha).2⟩ fun a ha => ?_)
    have hn := E1.hh.free (hs a ha).1
    exact ⟨hn, s.ext.gh.free hn, (hs a ha).2.ow⟩
def threeO' {β : Type} (x : D) (k : D → D → D → Out β β) : Out β β := threeD x k .no
/-- for x, y, z in .. -/
theorem ds_for3 {wi : TI} {tb : TS} {i j k : Nat} {e : α → En} {body : α → D → D → D → Out α α} {a0 : α}
    (hi : DI K (noOw env) wi rI) (h0 : Le (e a0) env) (hb : ∀ a x y z, DS K M ((((e a).set i (.sh x)).set j (.sh y)).set k (.sh z)) tb e e (body a x y z)) :
    DS K M env (tFor wi (gTup K 3 (gCons (gName i) (gCons (gName j) (gCons (gName k) gNil)))) tb) e eb (forR (fun a x => threeD x (body a) .no) rI a0) := by
  refine ds_for hi (bg_tup (bgs_cons (bg_name i) (bgs_cons (bg_name j) (bgs_cons (bg_name k) bgs_nil)))) h0 fun a x => ?_
  have other : ∀ {z : D}, (∀ p q r, z ≠ .tuple [p, q, r]) → threeD z (body a) (Out.no : Out α α) = .no := fun {z} h => by
    unfold threeD
    split
    · exact absurd rfl (h _ _ _)
    · rfl
  by_cases hx : ∃ p q r, x = .tuple [p, q, r]
  · obtain ⟨p, q, r, rfl⟩ := hx
    refine .inl ⟨(((e a).set i (.sh p)).set j (.sh q)).set k (.sh r), body a p q r, ?_, by rw [List.length_set, List.length_set, List.length_set], fun n h => ?_, fun n h ds z => ?_, hb a p q r, rfl⟩
    · show (some ((((noOw (e a)).set i (.sh p)).set j (.sh q)).set k (.sh r)) : Option En) = _
      rw [noOw_set, noOw_set, noOw_set]
    · have hk : n ≠ i ∧ n ≠ j ∧ n ≠ k := by simpa using h
      rw [List.getElem?_set_ne (Ne.symm hk.2.2), List.getElem?_set_ne (Ne.symm hk.2.1), List.getElem?_set_ne (Ne.symm hk.1)]
    · rcases set_some z with ⟨_, e1, _⟩ | ⟨ne, z⟩
      · rw [e1]; rfl
      · rcases set_some z with ⟨_, e1, _⟩ | ⟨ne2, z⟩
        · rw [e1]; rfl
        · rcases set_some z with ⟨_, e1, _⟩ | ⟨ne3, _⟩
          · rw [e1]; rfl
          · have hk : n = i ∨ n = j ∨ n = k := by simpa using h
            rcases hk with rfl | rfl | rfl
            · exact absurd rfl ne3
            · exact absurd rfl ne2
            · exact absurd rfl ne
  · exact .inr (other fun p q r z => hx ⟨p, q, r, z⟩)
end
end Dl
namespace Dl
open PySem PySem.Spec PyProof.Rows L2
theorem kDfN {X : Cx} {k : Nat} {x : Str} {ps : List Str} {e : Expr} {es : List Expr} {t : TA} {p pos : Pos} (K : PySem.W.Frag) {m : List D → Option D} {P : Program} {w : World} {mg : Str → Option Value} {base : Heap} (d : DfN P w K mg base k x ps m) (hr : Room k X.A) (hg : Gl X x) (ha : PA X (e :: es) t)
    (h1 : X.prog = P := by rfl) (h2 : X.w = w := by rfl) (h3 : X.K = K := by rfl) (h4 : X.mg = mg := by rfl) (h5 : X.base = base := by rfl) (hdb : (x == ("__debug__" : Str)) = false := by decide)
    (he : starEach (e :: es) X.env = (false, eval e X.env) :: starEach es X.env := by rfl) (hpl : (backTo pos (starEach es X.env)).any (·.1) = false := by rfl) :
    PE X (.Call (.Name x p) (e :: es) [] pos) (tCall (spF K m) [] E0 t) := by
  subst h1; subst h2; subst h3; subst h4; subst h5
  obtain ⟨f, fd, g1, g2, g3, g4⟩ := d.ex
  exact pe_call g4 hr hg g1 g2 g3 .nil pass0 ha hdb he hpl
end Dl

set_option Elab.async false
set_option linter.all false
set_option maxRecDepth 100000
set_option maxHeartbeats 2000000
namespace Dl
open PySem PySem.Spec PyProof.Rows L2
/-! ### new data written over -/
/-- a new list of n items, no more known -/
def Sl.wl (n : Nat) : Sl where
  sm := false
  v := fun _ _ _ => True
  p := fun _ _ _ H o S => ∃ p xs, o = some (.ref p) ∧ p ∈ S ∧ H p = some (.lst xs) ∧ xs.length ≤ n
  vm := fun _ _ => trivial
  pm := fun _ hs _ ⟨p, xs, e, m, h, l⟩ => ⟨p, xs, e, m, (hs p m).trans h, l⟩
  pv := fun _ _ _ => trivial
  pe := fun h => by cases h
section
variable {K : PySem.W.Frag} {M : Md} {env : En} {α β : Type} {en : α → En} {eb : β → En} {σ : L2.St} {G0 H0 B G H : Hp}
/-- what a statement does that writes new data over -/
def Spoils (K : PySem.W.Frag) (env : En) (i : Nat) (js : List Nat) (d : D) (Pz : V → List Addr → Hp → Prop) (t : TS) : Prop :=
  ∀ (σ : L2.St) (H : Hp) (v : V) (S : List Addr) (T : Ends), SE K env σ H → σ[i]? = some (some v) → DpN K H S v d → (∀ a ∈ S, Lst (H a)) →
    (∀ (σ' : L2.St) (H' : Hp), σ'.length = σ.length → (∀ j, j ∉ js → σ'[j]? = σ[j]?) → (∀ b o, b ∉ S → H b = some o → H' b = some o) → (∀ b ∈ S, Lst (H' b)) → Pz v S H' → T.nx σ' H') → t T σ H
/-- a list of at most n items -/
def Pwl (n : Nat) (v : V) (S : List Addr) (H : Hp) : Prop := ∃ p xs, v = .ref p ∧ p ∈ S ∧ H p = some (.lst xs) ∧ xs.length ≤ n
theorem pz_wl {K : PySem.W.Frag} {n : Nat} (H0 G H : Hp) (v : V) (S : List Addr) (h : Pwl n v S H) : (Sl.wl n).p K H0 G H (some v) S := by
  obtain ⟨p, xs, rfl, m, e, l⟩ := h
  exact ⟨p, xs, rfl, m, e, l⟩
theorem ds_spoil {i : Nat} {js : List Nat} {d : D} {t : TS} {Pz : V → List Addr → Hp → Prop} (sl' : Sl) (hi : env[i]? = some (.nu d)) (ht : Spoils K env i js d Pz t) (hz : ∀ (H0 G H : Hp) (v : V) (S : List Addr), Pz v S H → sl'.p K H0 G H (some v) S) (hij : i ∉ js) (hj : ∀ j ∈ js, env[j]? = some .un ∨ env.length ≤ j) :
    DS K M env t (fun _ : Unit => env.set i sl') eb (.nx () : Out Unit β) := fun σ G0 H0 B G H T s q => by
  obtain ⟨F, f1, f2, f3⟩ := s.fp
  obtain ⟨o, h1, v, rfl, h2, h3⟩ := f1 i _ hi
  refine ht σ H v (F i) T s.all h1 h2 h3 fun σ' H' hl hσ hk hL hp => q σ' G H' ?_
  have hjn : ∀ j ∈ js, ∀ u : Sl, env[j]? = some u → u = .un := fun j h u hu => by
    rcases hj j h with e | e
    · rw [e] at hu; cases hu; rfl
    · rw [List.getElem?_eq_none e] at hu; cases hu
  -- the slot's own things are at F i
  refine ⟨⟨s.ext.gg, fun b u e => hk b u (fun hb => ?_) (s.ext.hh b u e), fun b u e => hk b u (fun hb => ?_) (s.ext.gh b u e), s.ext.nw⟩, s.bg, by rw [List.length_set, hl]; exact s.len, F, fun j e hj' => ?_, fun j a hj' => ?_, f3⟩
  · have := (f2 i b hb).2.1; rw [this] at e; cases e
  · have := (f2 i b hb).1; rw [this] at e; cases e
  · rcases set_some hj' with ⟨rfl, rfl, _⟩ | ⟨ne, hj'⟩
    · exact ⟨_, (hσ _ hij).trans h1, hz _ _ _ _ _ hp⟩
    · obtain ⟨o', k1, k2⟩ := f1 j e hj'
      have keq : ∀ b, H b ≠ none → b ∉ F i → H' b = H b := fun b hb n => by
        cases e : H b with
        | none => exact absurd e hb
        | some u => exact hk b u n e
      by_cases c : j ∈ js
      · have := hjn j c e hj'
        subst this
        have jl : j < σ'.length := by
          rw [hl]
          rcases Nat.lt_or_ge j σ.length with z | z
          · exact z
          · rw [List.getElem?_eq_none z] at k1; cases k1
        exact ⟨σ'[j], List.getElem?_eq_getElem jl, k2.1, trivial⟩
      · exact ⟨o', (hσ j c).trans k1, e.pm (Same.refl G) (fun a ha => keq a (f2 j a ha).2.2.1 fun z => f3 j i a (Ne.symm ne) ha z) (fun b hb => keq b (fun z => by rw [z] at hb; exact hb) fun z => (f2 i b z).2.2.2 hb) k2⟩
  · obtain ⟨h3', h4, h5⟩ := f2 j a hj'
    refine ⟨h3', h4, ?_⟩
    by_cases z : a ∈ F i
    · exact (hL a z).ow
    · cases e : H a with
      | none => exact absurd e h5.1
      | some u => rw [hk a u z e, ← e]; exact h5
end
theorem dpns_len {K : PySem.W.Frag} {H : Hp} {S : List Addr} : ∀ {vs : List V} {ds : List D}, DpNs K H S vs ds → vs.length = ds.length
  | _, _, .nil => rfl
  | _, _, .cons _ t => congrArg (· + 1) (dpns_len t)
theorem dpns_get {K : PySem.W.Frag} {H : Hp} {S : List Addr} : ∀ {vs : List V} {ds : List D} {i : Nat} {d : D}, DpNs K H S vs ds → ds[i]? = some d → ∃ v, vs[i]? = some v ∧ DpN K H S v d
  | _, _, _, _, .nil, e => by simp at e
  | _, _, 0, _, .cons r _, e => by simp at e; subst e; exact ⟨_, rfl, r⟩
  | _, _, i + 1, d, .cons _ t, e => by
    obtain ⟨v, h1, h2⟩ := dpns_get (i := i) (d := d) t (by simpa using e)
    exact ⟨v, by simpa using h1, h2⟩
/-! #### for x in ys: x.append(c) -/
def okA (ds : List D) : Bool := decide (ds.length ≤ 100000) && ds.all fun d => match d with
  | .list es => es.all atom && decide (es.length ≤ 100000)
  | _ => false
theorem okA_get {ds : List D} {k : Nat} {d : D} (h : okA ds = true) (e : ds[k]? = some d) : ∃ es, d = .list es ∧ es.all atom = true ∧ es.length ≤ 100000 := by
  unfold okA at h
  rw [Bool.and_eq_true] at h
  have := List.all_eq_true.mp h.2 d (List.mem_of_getElem? e)
  cases d with
  | list es =>
    dsimp only at this
    rw [Bool.and_eq_true] at this
    exact ⟨es, rfl, this.1, of_decide_eq_true this.2⟩
  | _ => cases this
theorem big_le : (300000 : Nat) ≤ sizeLine := by decide
section
variable {K : PySem.W.Frag} {env : En}
theorem spoils_A {i j : Nat} {c : Int} {ds : List D} (h : okA ds = true) (hjl : j < env.length) : Spoils K env i [j] (.list ds) (Pwl ds.length) (tFor (iAny K (tVar i)) (gName j) (tDrop (tBM K "list" rAppend (tVar j) (tCons (tC (.int c)) tNil)))) := by
  intro σ H v S T sE hv hn hL q
  cases hn with
  | lst pS hp hall =>
    rename_i p xs
    have hlen := dpns_len hall
    have hlen1 : ds.length ≤ 100000 := by
      unfold okA at h; rw [Bool.and_eq_true] at h; exact of_decide_eq_true h.1
    have inner : ∀ k (hk : k < xs.length), ∃ a ys, xs[k]? = some (.ref a) ∧ H a = some (.lst ys) ∧ ys.length ≤ 100000 ∧ a ∈ S ∧ a ≠ p := fun k hk => by
      have hkd : k < ds.length := by omega
      obtain ⟨es, e1, e2, e3⟩ := okA_get h (List.getElem?_eq_getElem hkd)
      obtain ⟨u, k1, k2⟩ := dpns_get hall (List.getElem?_eq_getElem hkd)
      rw [e1] at k2
      cases k2 with
      | lst aS ha hes =>
        rename_i a ys
        refine ⟨a, ys, k1, ha, by rw [dpns_len hes]; exact e3, aS, fun z => ?_⟩
        subst z
        rw [hp] at ha; cases ha
        have hke : k < es.length := by rw [← dpns_len hes]; exact hk
        obtain ⟨u', m1, m2⟩ := dpns_get hes (List.getElem?_eq_getElem hke)
        rw [k1] at m1; cases m1
        have at1 := List.all_eq_true.mp e2 _ (List.getElem_mem hke)
        revert m2 at1
        generalize es[k] = y
        intro m2 at1
        cases m2 with
        | lst _ _ _ => cases at1
        | tup _ _ => cases at1
    refine .inl ⟨.ref p, hv, p, rfl, ⟨xs, .inl (.inl hp)⟩, ?_⟩
    refine ⟨fun n m σ' H' => m = xs.length - n ∧ n ≤ xs.length ∧ σ'.length = σ.length ∧ (∀ k, k ≠ j → σ'[k]? = σ[k]?) ∧ H' p = some (.lst xs) ∧ (∀ b o, b ∉ S → H b = some o → H' b = some o) ∧ (∀ b ∈ S, Lst (H' b)) ∧
      ∀ k (hk : k < xs.length), ∃ a ys, xs[k]? = some (.ref a) ∧ H' a = some (.lst ys) ∧ ys.length ≤ 100000 + n ∧ a ∈ S ∧ a ≠ p,
      ⟨xs.length, by omega, Nat.zero_le _, rfl, fun _ _ => rfl, hp, fun _ _ _ e => e, hL, inner⟩, ?_⟩
    rintro n m σ' H' ⟨rfl, hn', l', s', p', k', L', I'⟩
    by_cases hlt : n < xs.length
    · right
      refine ⟨⟨xs, xs[n], .inl (.inl p'), List.getElem?_eq_getElem hlt⟩, fun σ'' H'' => ∃ m', m' < xs.length - n ∧ (m' = xs.length - (n + 1) ∧ n + 1 ≤ xs.length ∧ σ''.length = σ.length ∧ (∀ k, k ≠ j → σ''[k]? = σ[k]?) ∧ H'' p = some (.lst xs) ∧ (∀ b o, b ∉ S → H b = some o → H'' b = some o) ∧ (∀ b ∈ S, Lst (H'' b)) ∧
        ∀ k (hk : k < xs.length), ∃ a ys, xs[k]? = some (.ref a) ∧ H'' a = some (.lst ys) ∧ ys.length ≤ 100000 + (n + 1) ∧ a ∈ S ∧ a ≠ p), fun σ'' H'' h => h, fun x H3 hy => ?_⟩
      obtain ⟨rfl, hx⟩ := hy
      have ex := hx xs (.inl (.inl p'))
      obtain ⟨a, ys, e1, e2, e3, e4, e5⟩ := I' n hlt
      rw [e1] at ex; cases ex
      have jl : j < σ'.length := by rw [l', sE.len]; exact hjl
      refine ⟨.ref a, List.getElem?_set_self jl, Or.inl ⟨rfl, ys, .inl (.inl e2)⟩, a, ys, .int c, rfl, rfl, e2, Nat.lt_of_lt_of_le (by omega : ys.length < 300000) big_le, ?_⟩
      refine ⟨_, by omega, rfl, hlt, by rw [List.length_set]; exact l', fun k hk => by rw [List.getElem?_set_ne (Ne.symm hk)]; exact s' k hk, by rw [upd_ne (Ne.symm e5)]; exact p', fun b o hb e => by rw [upd_ne (fun z => hb (by rw [z]; exact e4))]; exact k' b o hb e, fun b hb => ?_, fun k hk => ?_⟩
      · by_cases z : b = a
        · subst z; exact ⟨_, upd_same⟩
        · rw [upd_ne z]; exact L' b hb
      · obtain ⟨a2, ys2, m1, m2, m3, m4, m5⟩ := I' k hk
        by_cases z : a2 = a
        · subst z
          rw [e2] at m2; cases m2
          exact ⟨a2, _, m1, upd_same, by rw [List.length_append]; simp; omega, m4, m5⟩
        · exact ⟨a2, ys2, m1, by rw [upd_ne z]; exact m2, by omega, m4, m5⟩
    · left
      have : n = xs.length := by omega
      subst this
      exact ⟨⟨xs, .inl (.inl p'), Nat.le_refl _⟩, q σ' H' l' (fun k hk => s' k (by simpa using hk)) k' L' ⟨p, xs, rfl, pS, p', Nat.le_of_eq hlen⟩⟩
end
/-! #### for x, y, zs in ys: zs.clear() -/
def okB (ds : List D) : Bool := ds.all fun d => match d with
  | .tuple [_, _, .list es] => decide (es.length ≤ 100000)
  | _ => false
theorem okB_get {ds : List D} {k : Nat} {d : D} (h : okB ds = true) (e : ds[k]? = some d) : ∃ a b es, d = .tuple [a, b, .list es] ∧ es.length ≤ 100000 := by
  have := List.all_eq_true.mp h d (List.mem_of_getElem? e)
  split at this
  · exact ⟨_, _, _, rfl, of_decide_eq_true this⟩
  · cases this
theorem sqt_keep {K : PySem.W.Frag} {H H' : Hp} {S : List Addr} {b : Addr} {us : List V} (hk : ∀ b o, b ∉ S → H b = some o → H' b = some o) (hL : ∀ a ∈ S, Lst (H a)) (h : SqT K H b us) : SqT K H' b us := by
  rcases h with h | h
  · have hb : b ∉ S := fun z => by
      obtain ⟨xs, e⟩ := hL b z
      have := rd_tup h
      rw [e] at this; exact this
    rcases h with h | ⟨o, h⟩
    · exact .inl (.inl (hk _ _ hb h))
    · exact .inl (.inr ⟨o, hk _ _ hb h⟩)
  · exact .inr h
/-- the items of such a list -/
theorem okB_inner {K : PySem.W.Frag} {H : Hp} {S : List Addr} {ds : List D} {xs : List V} (h : okB ds = true) (hall : DpNs K H S xs ds) : ∀ k (_ : k < xs.length), ∃ b u0 u1 a ys, xs[k]? = some (.ref b) ∧ SqT K H b [u0, u1, .ref a] ∧ H a = some (.lst ys) ∧ ys.length ≤ 100000 ∧ a ∈ S := fun k hk => by
  have hkd : k < ds.length := by rw [← dpns_len hall]; exact hk
  obtain ⟨d0, d1, es, e1, e2⟩ := okB_get h (List.getElem?_eq_getElem hkd)
  obtain ⟨u, k1, k2⟩ := dpns_get hall (List.getElem?_eq_getElem hkd)
  rw [e1] at k2
  cases k2 with
  | tup hb hc =>
    cases hc with
    | cons c0 hc =>
      cases hc with
      | cons c1 hc =>
        cases hc with
        | cons c2 hc =>
          cases hc
          cases c2 with
          | lst aS ha hes => exact ⟨_, _, _, _, _, k1, hb, ha, by rw [dpns_len hes]; exact e2, aS⟩
section
variable {K : PySem.W.Frag} {env : En}
theorem spoils_B {i j1 j2 j3 : Nat} {ds : List D} (h : okB ds = true) (h3 : j3 < env.length) :
    Spoils K env i [j1, j2, j3] (.list ds) (fun _ _ _ => True)
    (tFor (iAny K (tVar i)) (gTup K 3 (gCons (gName j1) (gCons (gName j2) (gCons (gName j3) gNil)))) (tDrop (tBM0 K "list" rClear (tVar j3)))) := by
  intro σ H v S T sE hv hn hL q
  cases hn with
  | lst pS hp hall =>
    rename_i p xs
    have inner := okB_inner h hall
    refine .inl ⟨.ref p, hv, p, rfl, ⟨xs, .inl (.inl hp)⟩, ?_⟩
    refine ⟨fun n m σ' H' => m = xs.length - n ∧ n ≤ xs.length ∧ σ'.length = σ.length ∧ (∀ j, j ∉ [j1, j2, j3] → σ'[j]? = σ[j]?) ∧ (H' p = some (.lst xs) ∨ H' p = some (.lst [])) ∧ (∀ b o, b ∉ S → H b = some o → H' b = some o) ∧ (∀ b ∈ S, Lst (H' b)),
      ⟨xs.length, by omega, Nat.zero_le _, rfl, fun _ _ => rfl, .inl hp, fun _ _ _ e => e, hL⟩, ?_⟩
    rintro n m σ' H' ⟨rfl, hn', l', s', p', k', L'⟩
    have fin : ∀ zs, H' p = some (.lst zs) → zs.length ≤ n → (Itl K p).stop n H' ∧ T.nx σ' H' := fun zs e hz => ⟨⟨zs, .inl (.inl e), hz⟩, q σ' H' l' s' k' L' trivial⟩
    rcases p' with p' | p'
    · by_cases hlt : n < xs.length
      · right
        refine ⟨⟨xs, xs[n], .inl (.inl p'), List.getElem?_eq_getElem hlt⟩, fun σ'' H'' => ∃ m', m' < xs.length - n ∧ (m' = xs.length - (n + 1) ∧ n + 1 ≤ xs.length ∧ σ''.length = σ.length ∧ (∀ j, j ∉ [j1, j2, j3] → σ''[j]? = σ[j]?) ∧ (H'' p = some (.lst xs) ∨ H'' p = some (.lst [])) ∧ (∀ b o, b ∉ S → H b = some o → H'' b = some o) ∧ (∀ b ∈ S, Lst (H'' b))), fun σ'' H'' h => h, fun x H3 hy => ?_⟩
        obtain ⟨rfl, hx⟩ := hy
        have ex := hx xs (.inl (.inl p'))
        obtain ⟨b, u0, u1, a, ys, e1, e2, e3, e4, e5⟩ := inner n hlt
        rw [e1] at ex; cases ex
        obtain ⟨zs, hzs⟩ := L' a e5
        refine ⟨b, [u0, u1, .ref a], rfl, sqt_keep k' hL e2, rfl, u0, _, rfl, u1, _, rfl, .ref a, _, rfl, rfl, ?_⟩
        have jl : j3 < ((σ'.set j1 (some u0)).set j2 (some u1)).length := by rw [List.length_set, List.length_set, l', sE.len]; exact h3
        refine ⟨.ref a, List.getElem?_set_self jl, Or.inl ⟨rfl, zs, .inl (.inl hzs)⟩, a, zs, rfl, rfl, hzs, ?_⟩
        refine ⟨_, by omega, rfl, hlt, by rw [List.length_set, List.length_set, List.length_set]; exact l', fun j hj => ?_, ?_, fun c o hc e => ?_, fun c hc => ?_⟩
        · simp at hj
          rw [List.getElem?_set_ne (Ne.symm hj.2.2), List.getElem?_set_ne (Ne.symm hj.2.1), List.getElem?_set_ne (Ne.symm hj.1)]
          exact s' j (by simp [hj])
        · by_cases z : p = a
          · subst z; exact .inr upd_same
          · exact .inl (by rw [upd_ne z]; exact p')
        · rw [upd_ne (fun z => hc (by rw [z]; exact e5))]; exact k' c o hc e
        · by_cases z : c = a
          · subst z; exact ⟨_, upd_same⟩
          · rw [upd_ne z]; exact L' c hc
      · exact .inl (fin xs p' (by omega))
    · exact .inl (fin [] p' (by simp))
/-- for x in list(ys): x[2].append(c) -/
theorem spoils_C {i j : Nat} {c : Int} {ds : List D} (h : okB ds = true) (hl : ds.length ≤ 100000) (hjl : j < env.length) :
    Spoils K env i [j] (.list ds) (Pwl 200000) (tFor (iList K (tCB (fun xs H Q => ∃ p ys, xs = [.ref p] ∧ (SqL K H p ys ∨ SqT K H p ys) ∧ ∀ l, H l = none → Q (.ref l) (upd H l (.lst ys))) (tCons (tVar i) tNil))) (gName j) (tDrop (tBM K "list" rAppend (tOp (rIx K) (tVar j) (tC (.int 2))) (tCons (tC (.int c)) tNil)))) := by
  intro σ H v S T sE hv hn hL q
  cases hn with
  | lst pS hp hall =>
    rename_i p xs
    have hlen := dpns_len hall
    have inner := okB_inner h hall
    refine ⟨.ref p, hv, p, xs, rfl, .inl (.inl (.inl hp)), fun r hr => ?_⟩
    have rS : r ∉ S := fun z => by
      obtain ⟨ys, e⟩ := hL r z
      rw [hr] at e; cases e
    refine ⟨r, rfl, ⟨xs, .inl (.inl upd_same)⟩, ?_⟩
    have sz : ∀ b o, H b = some o → upd H r (.lst xs) b = some o := fun b o e => by
      rw [upd_ne (ne_of_none e hr)]; exact e
    refine ⟨fun n m σ' H' => m = xs.length - n ∧ n ≤ xs.length ∧ σ'.length = σ.length ∧ (∀ k, k ≠ j → σ'[k]? = σ[k]?) ∧ H' r = some (.lst xs) ∧ (∀ b o, b ∉ S → H b = some o → H' b = some o) ∧ (∀ b ∈ S, Lst (H' b)) ∧
      (∀ k (hk : k < xs.length), ∃ b u0 u1 a ys, xs[k]? = some (.ref b) ∧ SqT K H b [u0, u1, .ref a] ∧ H' a = some (.lst ys) ∧ ys.length ≤ 100000 + n ∧ a ∈ S) ∧ ∃ zs, H' p = some (.lst zs) ∧ zs.length ≤ 100000 + n,
      ⟨xs.length, by omega, Nat.zero_le _, rfl, fun _ _ => rfl, upd_same, fun b o _ e => sz b o e, fun b hb => ?_, fun k hk => ?_, xs, sz _ _ hp, by omega⟩, ?_⟩
    · obtain ⟨ys, e⟩ := hL b hb; exact ⟨ys, sz _ _ e⟩
    · obtain ⟨b, u0, u1, a, ys, e1, e2, e3, e4, e5⟩ := inner k hk
      exact ⟨b, u0, u1, a, ys, e1, e2, sz _ _ e3, e4, e5⟩
    rintro n m σ' H' ⟨rfl, hn', l', s', r', k', L', I', P'⟩
    by_cases hlt : n < xs.length
    · right
      refine ⟨⟨xs, xs[n], .inl (.inl r'), List.getElem?_eq_getElem hlt⟩, fun σ'' H'' => ∃ m', m' < xs.length - n ∧ (m' = xs.length - (n + 1) ∧ n + 1 ≤ xs.length ∧ σ''.length = σ.length ∧ (∀ k, k ≠ j → σ''[k]? = σ[k]?) ∧ H'' r = some (.lst xs) ∧ (∀ b o, b ∉ S → H b = some o → H'' b = some o) ∧ (∀ b ∈ S, Lst (H'' b)) ∧
        (∀ k (hk : k < xs.length), ∃ b u0 u1 a ys, xs[k]? = some (.ref b) ∧ SqT K H b [u0, u1, .ref a] ∧ H'' a = some (.lst ys) ∧ ys.length ≤ 100000 + (n + 1) ∧ a ∈ S) ∧ ∃ zs, H'' p = some (.lst zs) ∧ zs.length ≤ 100000 + (n + 1)), fun σ'' H'' h => h, fun x H3 hy => ?_⟩
      obtain ⟨rfl, hx⟩ := hy
      have ex := hx xs (.inl (.inl r'))
      obtain ⟨b, u0, u1, a, ys, e1, e2, e3, e4, e5⟩ := I' n hlt
      rw [e1] at ex; cases ex
      have jl : j < σ'.length := by rw [l', sE.len]; exact hjl
      have ne : r ≠ a := fun z => rS (by rw [z]; exact e5)
      refine ⟨.ref b, List.getElem?_set_self jl, .inr (.inl ⟨b, [u0, u1, .ref a], 2, .ref a, rfl, rfl, sqt_keep k' hL e2, rfl, ?_⟩)⟩
      refine ⟨Or.inl ⟨rfl, ys, .inl (.inl e3)⟩, a, ys, .int c, rfl, rfl, e3, Nat.lt_of_lt_of_le (by omega : ys.length < 300000) big_le, ?_⟩
      refine ⟨_, by omega, rfl, hlt, by rw [List.length_set]; exact l', fun k hk => by rw [List.getElem?_set_ne (Ne.symm hk)]; exact s' k hk, by rw [upd_ne ne]; exact r', fun b o hb e => by rw [upd_ne (fun z => hb (by rw [z]; exact e5))]; exact k' b o hb e, fun b hb => ?_, fun k hk => ?_, ?_⟩
      · by_cases z : b = a
        · subst z; exact ⟨_, upd_same⟩
        · rw [upd_ne z]; exact L' b hb
      · obtain ⟨b2, w0, w1, a2, ys2, m1, m2, m3, m4, m5⟩ := I' k hk
        by_cases z : a2 = a
        · subst z
          rw [e3] at m3; cases m3
          exact ⟨b2, w0, w1, a2, _, m1, m2, upd_same, by rw [List.length_append]; simp; omega, m5⟩
        · exact ⟨b2, w0, w1, a2, ys2, m1, m2, by rw [upd_ne z]; exact m3, by omega, m5⟩
      · obtain ⟨zs, z1, z2⟩ := P'
        by_cases z : p = a
        · subst z
          rw [e3] at z1; cases z1
          exact ⟨_, upd_same, by rw [List.length_append]; simp; omega⟩
        · exact ⟨zs, by rw [upd_ne z]; exact z1, by omega⟩
    · left
      have : n = xs.length := by omega
      subst this
      obtain ⟨zs, z1, z2⟩ := P'
      exact ⟨⟨xs, .inl (.inl r'), Nat.le_refl _⟩, q σ' H' l' (fun k hk => s' k (by simpa using hk)) k' L' ⟨p, zs, rfl, pS, z1, by omega⟩⟩
variable {M : Md} {α β : Type} {en : α → En} {eb : β → En} {te : TE} {ra : Option D}
/-- xs.append(e), xs written over -/
theorem ds_wapp {i n : Nat} (hi : env[i]? = some (Sl.wl n)) (hn : n ≤ 300000) (h : DV K env te ra) :
    DS K M env (tDrop (tBM K "list" rAppend (tVar i) (tCons te tNil))) (fun _ : Unit => env.set i (.wl (n + 1))) eb (toO (ra.bind fun _ => some ()) : Out Unit β) := fun σ G0 H0 B G H T s q => by
  cases ra with
  | none => exact q.elim
  | some d =>
    have get : ∀ {H : Hp}, SS K env σ G0 H0 B G H → ∃ p xs, σ[i]? = some (some (.ref p)) ∧ H p = some (.lst xs) ∧ xs.length ≤ n := fun s => by
      obtain ⟨F, f1, _, _⟩ := s.fp
      obtain ⟨o, h1, p, xs, rfl, _, h2, h3⟩ := f1 i _ hi
      exact ⟨p, xs, h1, h2, h3⟩
    obtain ⟨p, xs, h1, h2, h3⟩ := get s
    refine ⟨.ref p, h1, Or.inl ⟨rfl, xs, .inl (.inl h2)⟩, ?_⟩
    refine h σ H H _ d s.all (Same.refl H) rfl fun v G' H' E hd => ?_
    have s' := s.grow E.hh
    have h2' := E.hh _ _ h2
    refine ⟨p, xs, v, rfl, rfl, h2', Nat.lt_of_lt_of_le (Nat.lt_of_le_of_lt h3 (Nat.lt_of_le_of_lt hn (by decide : 300000 < 1000000))) million_le, q σ G _ (s'.chgS hi fun o S ho hO ⟨p2, xs2, e, hS, hl, hd2⟩ => ?_)⟩
    subst e
    rw [h1] at ho; cases ho
    rw [h2'] at hl; cases hl
    refine ⟨⟨p, _, rfl, hS, upd_same, by rw [List.length_append]; simp; omega⟩, fun b hb => upd_ne (fun z => hb (by rw [z]; exact hS)), fun b hb => ?_⟩
    by_cases z : b = p
    · subst z; exact ow_lst upd_same
    · rw [upd_ne z]; exact hO b hb
/-- xs.clear(), xs written over -/
theorem ds_wclr {i n : Nat} (hi : env[i]? = some (Sl.wl n)) : DS K M env (tDrop (tBM0 K "list" rClear (tVar i))) (fun _ : Unit => env.set i (.wl 0)) eb (.nx () : Out Unit β) := fun σ G0 H0 B G H T s q => by
  obtain ⟨F, f1, _, _⟩ := s.fp
  obtain ⟨o, h1, p, xs, rfl, _, h2, h3⟩ := f1 i _ hi
  refine ⟨.ref p, h1, Or.inl ⟨rfl, xs, .inl (.inl h2)⟩, p, xs, rfl, rfl, h2, q σ G _ (s.chgS hi fun o S ho hO ⟨p2, xs2, e, hS, hl, hd2⟩ => ?_)⟩
  subst e
  rw [h1] at ho; cases ho
  refine ⟨⟨p, _, rfl, hS, upd_same, Nat.le_refl _⟩, fun b hb => upd_ne (fun z => hb (by rw [z]; exact hS)), fun b hb => ?_⟩
  by_cases z : b = p
  · subst z; exact ow_lst upd_same
  · rw [upd_ne z]; exact hO b hb
end
end Dl
namespace Dl
open PySem PySem.Spec PyProof.Rows L2
section
variable {K : PySem.W.Frag} {M : Md} {env : En} {β : Type} {eb : β → En}
def spA : D → Option Unit
  | .list ds => if okA ds = true then some () else none
  | _ => none
def spB : D → Option Unit
  | .list ds => if okB ds = true then some () else none
  | _ => none
def spC : D → Option Unit
  | .list ds => if okB ds = true ∧ ds.length ≤ 100000 then some () else none
  | _ => none
/-- for x in ys: x.append(c) -/
theorem ds_spA {i j : Nat} {c : Int} {v : D} (hi : env[i]? = some (Sl.nu v)) (hij : i ∉ [j]) (hj : ∀ k ∈ [j], env[k]? = some Sl.un ∨ env.length ≤ k) (hjl : j < env.length) :
    DS K M env (tFor (iAny K (tVar i)) (gName j) (tDrop (tBM K "list" rAppend (tVar j) (tCons (tC (.int c)) tNil)))) (fun _ : Unit => env.set i (.wl 100000)) eb (toO (spA v) : Out Unit β) := by
  cases v with
  | list ds =>
    show DS K M env _ _ eb (toO (if okA ds = true then some () else none) : Out Unit β)
    by_cases h : okA ds = true
    · rw [if_pos h]
      have hl : ds.length ≤ 100000 := by
        have h' := h
        unfold okA at h'
        rw [Bool.and_eq_true] at h'
        exact of_decide_eq_true h'.1
      exact ds_spoil (.wl 100000) hi (spoils_A (c := c) h hjl) (fun H0 G H v S ⟨p, xs, e, m, h1, h2⟩ => ⟨p, xs, congrArg some e, m, h1, Nat.le_trans h2 hl⟩) hij hj
    · rw [if_neg h]; exact fun σ G0 H0 B G H T s q => q.elim
  | _ => exact fun σ G0 H0 B G H T s q => q.elim
/-- for x, y, zs in ys: zs.clear() -/
theorem ds_spB {i j1 j2 j3 : Nat} {v : D} (hi : env[i]? = some (Sl.nu v)) (hij : i ∉ [j1, j2, j3]) (hj : ∀ k ∈ [j1, j2, j3], env[k]? = some Sl.un ∨ env.length ≤ k) (hjl : j3 < env.length) :
    DS K M env (tFor (iAny K (tVar i)) (gTup K 3 (gCons (gName j1) (gCons (gName j2) (gCons (gName j3) gNil)))) (tDrop (tBM0 K "list" rClear (tVar j3)))) (fun _ : Unit => env.set i .wa) eb (toO (spB v) : Out Unit β) := by
  cases v with
  | list ds =>
    show DS K M env _ _ eb (toO (if okB ds = true then some () else none) : Out Unit β)
    by_cases h : okB ds = true
    · rw [if_pos h]
      exact ds_spoil .wa hi (spoils_B h hjl) (fun _ _ _ _ _ _ => trivial) hij hj
    · rw [if_neg h]; exact fun σ G0 H0 B G H T s q => q.elim
  | _ => exact fun σ G0 H0 B G H T s q => q.elim
/-- for x in list(ys): x[2].append(c) -/
theorem ds_spC {i j : Nat} {c : Int} {v : D} (hi : env[i]? = some (Sl.nu v)) (hij : i ∉ [j]) (hj : ∀ k ∈ [j], env[k]? = some Sl.un ∨ env.length ≤ k) (hjl : j < env.length) :
    DS K M env (tFor (iList K (tCB (fun xs H Q => ∃ p ys, xs = [.ref p] ∧ (SqL K H p ys ∨ SqT K H p ys) ∧ ∀ l, H l = none → Q (.ref l) (upd H l (.lst ys))) (tCons (tVar i) tNil))) (gName j) (tDrop (tBM K "list" rAppend (tOp (rIx K) (tVar j) (tC (.int 2))) (tCons (tC (.int c)) tNil)))) (fun _ : Unit => env.set i (.wl 200000)) eb (toO (spC v) : Out Unit β) := by
  cases v with
  | list ds =>
    show DS K M env _ _ eb (toO (if okB ds = true ∧ ds.length ≤ 100000 then some () else none) : Out Unit β)
    by_cases h : okB ds = true ∧ ds.length ≤ 100000
    · rw [if_pos h]
      exact ds_spoil (.wl 200000) hi (spoils_C (c := c) h.1 h.2 hjl) (fun H0 G H v S ⟨p, xs, e, m, h1, h2⟩ => ⟨p, xs, congrArg some e, m, h1, h2⟩) hij hj
    · rw [if_neg h]; exact fun σ G0 H0 B G H T s q => q.elim
  | _ => exact fun σ G0 H0 B G H T s q => q.elim
end
end Dl

set_option Elab.async false
set_option linter.all false
set_option maxRecDepth 100000
set_option maxHeartbeats 2000000
namespace Dl
open PySem PySem.Spec PyProof.Rows L2
/-! ### {k for x in xs if ..}, the members ints -/
/-- one more member -/
abbrev plusS (S : Int → Bool) (k : Int) : Int → Bool := fun j => S j || decide (j = k)
/-- what a turn owes: the item bound, the tests, then a member goes in -/
def scTurn (w : World) (g : TG) (tt : TT) (te : TE) (vs : List Nat) (σ : L2.St) (D : Addr) (Nx : Hp → Prop) (x : V) (H' : Hp) : Prop :=
  g x (wipe σ vs) H' fun σ2 H2 => wipe σ2 vs = wipe σ vs ∧ tt σ2 H2 fun b H3 =>
    if b = true then te σ2 H3 fun y H4 => ∃ (k : Int) (S : Int → Bool) (n : Nat), y = .int k ∧ H4 D = some (SetO w D S n) ∧ n + 1 < scanBound ∧ Nx (upd H4 D (SetO w D (plusS S k) (if S k = true then n else n + 1))) else Nx H3
/-- the comprehension: its set at D -/
def tSci (w : World) (wi : TI) (g : TG) (tt : TT) (te : TE) (vs : List Nat) : TE := fun σ H Q => wi σ H fun J H1 => ∀ D, H1 D = none → ∃ W : Nat → Nat → Hp → Prop, (∃ m, W 0 m (upd H1 D (SetO w D (fun _ => false) 0))) ∧
  ∀ i m H, W i m H → (J.stop i H ∧ Q (.ref D) H) ∨ (J.go i H ∧ ∃ Nx : Hp → Prop, (∀ H', Nx H' → ∃ m', m' < m ∧ W (i + 1) m' H') ∧ ∀ x H', J.yld i H x H' → scTurn w g tt te vs σ D Nx x H')
variable {X : Cx}
theorem pe_sci {elt tg iter : Expr} {ifs : List Expr} {scope : Scope} {own : List (PySem.Str × Nat)} {pos : Pos} {wi : TI} {g : TG} {tt : TT} {te : TE} (hc : X.calm = true) (hN : X.N.Nodup) (hi : PI X tg iter wi) (ok : BlkOk X.N X.env.scope scope own)
    (hg : ∀ (s : Shared) (H : Hp) (C : Addr) (cl : List (PySem.Str × Addr)) (fp : List Addr), PG (X.blk s H scope (compEnvC scope cl C X.env) fp) tg g) (ht : ∀ (s : Shared) (H : Hp) (C : Addr) (cl : List (PySem.Str × Addr)) (fp : List Addr), PTs (X.blk s H scope (compEnvC scope cl C X.env) fp) ifs tt)
    (he : ∀ (s : Shared) (H : Hp) (C : Addr) (cl : List (PySem.Str × Addr)) (fp : List Addr), PE (X.blk s H scope (compEnvC scope cl C X.env) fp) elt te) (hs : ∀ x, foldedSetIterable iter X.env x = pure x := by intro _; rfl) :
    PE X (.SetComp elt [⟨tg, iter, ifs, 0⟩] scope pos) (tSci X.w wi g tt te (own.map (·.2))) := by
  refine ⟨fun pins s σ H Q I h => ?_⟩
  rw [PpSet.eval_SetComp]
  have freeOk : ∀ y ∈ scope.names, y.2 = .free → ∃ c, X.env.cells.lookup y.1 = some c := fun y hy e => (ok.free y hy e).elim (fun k => I.ok.has _ (.inl k)) fun k => I.ok.has _ (.inr k)
  refine wpAny_comprehension_free (use := none) rfl hs (closure_ok freeOk) ok.kind (fun y hy e => by rw [ok.uniq y hy, e]) (thn (hi.run pins s σ H _ I h) fun xv sa ha => thn ha fun itv sb hb => ?_)
  obtain ⟨it, fp, tn, J, Hb, rfl, Ib, T, stb, fb, q⟩ := hb
  refine PpSet.newSet_ok (newEnv_comp ?_)
  have free0 : Hb sb.heap.objs.size = none := Ib.hok.fresh (Nat.le_refl _)
  obtain ⟨W, ⟨m0, w0⟩, turn⟩ := q sb.heap.objs.size free0
  generalize hse : ({ sb with heap := sb.heap.push { cls := .type "set", dict := none, data := .set #[] 0 (.fresh 0 0 (!X.w.params.followText "set-order")) } } : Shared) = se
  have Ie : Inv X pins σ (upd Hb sb.heap.objs.size (SetO X.w sb.heap.objs.size (fun _ => false) 0)) se := by
    rw [← hse]
    exact Ib.laid (t' := sb.toks) (fun b o e => Heap.get?_push_of_some _ e) (Nat.le_refl _) (setO_new (setR_fresh X.w))
  have heape : se.heap = sb.heap.push { cls := .type "set", dict := none, data := .set #[] 0 (.fresh 0 0 (!X.w.params.followText "set-order")) } := by rw [← hse]
  obtain ⟨D, hD⟩ : ∃ D, sb.heap.objs.size = D := ⟨_, rfl⟩
  rw [hD] at free0 w0 turn Ie
  rw [hD]
  have young : ∀ b ∈ fp, b < D := fun b hb => by
    obtain ⟨o, e, _⟩ := T.obj _ _ stb b hb
    rw [← hD]; exact Heap.lt_size e
  have fe : ∀ b ∈ fp, FpOk X pins (upd Hb D (SetO X.w D (fun _ => false) 0)) b ∧ b < se.heap.objs.size := fun b hb => by
    have lt := young b hb
    refine ⟨⟨(upd_ne (Nat.ne_of_lt lt)).trans (fb b hb).1, (fb b hb).2⟩, ?_⟩
    rw [heape, Heap.size_push, hD]; exact Nat.lt_succ_of_lt lt
  have ste : tn 0 se.heap := T.keep _ _ _ stb fun b _ o e => by rw [heape]; exact Heap.get?_push_of_some _ e
  have Ik := block_start Ie ok hN fe
  have qg := hg se (upd Hb D (SetO X.w D (fun _ => false) 0)) se.heap.objs.size (cellsFrom (se.heap.objs.size + 1) scope.names (cloFrom X.env.cells scope.names [])) fp
  have qt := ht se (upd Hb D (SetO X.w D (fun _ => false) 0)) se.heap.objs.size (cellsFrom (se.heap.objs.size + 1) scope.names (cloFrom X.env.cells scope.names [])) fp
  have qe := he se (upd Hb D (SetO X.w D (fun _ => false) 0)) se.heap.objs.size (cellsFrom (se.heap.objs.size + 1) scope.names (cloFrom X.env.cells scope.names [])) fp
  have goal : codeAny (model X.prog X.w) X.A (.compStart (.SetComp elt [⟨tg, iter, ifs, 0⟩] scope pos) 0 (.ref it) (.ref D) (compEnvC scope (cellsFrom (se.heap.objs.size + 1) scope.names (cloFrom X.env.cells scope.names [])) se.heap.objs.size X.env))
      (compPost (model X.prog X.w) X.A X.xe none (fun v s' => ∃ y H', Inv X pins σ H' s' ∧ RelV y v ∧ Q y H') (.ref D) se.heap.objs.size) { se with heap := pushCells (se.heap.push { cls := .type "dict", data := .dict #[] }) scope.names } := by
    have nfp : ∀ b ∈ fp, (upd Hb D (SetO X.w D (fun _ => false) 0)) b = none := fun b hb => (fe b hb).1.1
    generalize hce : compEnvC scope (cellsFrom (se.heap.objs.size + 1) scope.names (cloFrom X.env.cells scope.names [])) se.heap.objs.size X.env = ce at Ik qg qt qe ⊢
    have locs : ce.locals = se.heap.objs.size := by subst hce; rfl
    generalize hHe : upd Hb D (SetO X.w D (fun _ => false) 0) = He at Ie Ik qg qt qe w0 nfp fe
    generalize hsk : ({ se with heap := pushCells (se.heap.push { cls := .type "dict", data := .dict #[] }) scope.names } : Shared) = sk at Ik ⊢
    have stk : tn 0 sk.heap := T.keep _ _ _ ste fun b _ o e => by rw [← hsk]; exact pushCells_keeps _ _ _ _ (Heap.get?_push_of_some _ e)
    have quiet : ∀ {σ' : L2.St} {H' : Hp} {s' : Shared}, Inv (X.blk se He scope ce fp) [] σ' H' s' → (∀ b ∈ fp, H' b = none) → ∀ b ∈ fp, FpOk (X.blk se He scope ce fp) [] H' b := fun J nn b hb =>
      ⟨nn b hb, (J.ok.exf b hb).1, J.ok.exfs b hb, .inl hb, fun x c e => (J.ok.exf b hb).2 x c e, fun p hp => absurd (show p ∈ ([] : List (Addr × Obj)) ++ [] from hp) (by simp)⟩
    have run : codeAny (model X.prog X.w) X.A (.compLoop (.SetComp elt [⟨tg, iter, ifs, 0⟩] scope pos) 0 (.ref it) (.ref D) ce) (compPost (model X.prog X.w) X.A X.xe none (fun v s' => ∃ y H', Inv X pins σ H' s' ∧ RelV y v ∧ Q y H') (.ref D) se.heap.objs.size) sk := by
      refine PpSet.compLoopS_any (fun n s' => ∃ i H', Inv (X.blk se He scope ce fp) [] (wipe σ (own.map (·.2))) H' s' ∧ tn i s'.heap ∧ (∀ b ∈ fp, H' b = none) ∧ W i n H') ?_ m0 ⟨0, He, Ik, stk, nfp, w0⟩
      rintro n s5 ⟨i, H5, J5, t5, z5, w5⟩
      rcases turn i n H5 w5 with ⟨stop, fin⟩ | ⟨go, Nx, less, each⟩
      · refine thnF (T.done (X.blk se He scope ce fp) rfl rfl rfl hc i [] s5 _ H5 (fun _ _ => False) J5 (quiet J5 z5) t5 stop) fun r s6 ⟨er, J6⟩ => ?_
        subst er
        have back : Inv X pins σ H5 s6 := Ie.call' (ch := fp) J6.os J6.base J6.hok J6.bare fun b hb => ⟨(fe b hb).1.2.2.2.1, (fe b hb).1.2.1, (fe b hb).1.2.2.2.2.1, (fe b hb).1.2.2.2.2.2⟩
        have zC : H5 se.heap.objs.size = none := locs ▸ (J6.free : H5 ce.locals = none)
        obtain ⟨m, names, _⟩ := J6.loc
        refine ⟨m, locs ▸ names, fun h'' sb'' => ?_⟩
        obtain ⟨k0, k1, k2, k3, k4, k5⟩ := Ie.fpOk (Nat.le_refl _) zC
        exact ⟨.ref D, H5, back.turned (t' := s6.toks) (fun b o hb e => (sb''.2 b hb).trans e) k0 k1 k3 k4 k5, rfl, fin⟩
      · refine thnF (T.item (X.blk se He scope ce fp) rfl rfl rfl hc i [] s5 _ H5 (fun _ _ => False) J5 (quiet J5 z5) t5 go) fun r s6 ⟨u, er, h6⟩ => ?_
        subst er
        refine thnF h6 fun _ s7 ⟨x, H7, J7, r7, y7, t7, z7⟩ => ?_
        have P7 := J7.pinned (quiet J7 z7) (T.obj _ _ t7)
        refine thnF (qg.run _ s7 _ H7 x u _ P7 r7 (each x H7 y7)) fun _ s8 ⟨σ8, H8, J8, wp8, q8⟩ => ?_
        refine thnF (qt.run _ s8 σ8 H8 _ J8 q8) fun b s9 ⟨H9, J9, q9⟩ => ?_
        have next : ∀ {s' : Shared} {H' : Hp}, Inv (X.blk se He scope ce fp) ([] ++ pinsAt fp s7.heap) σ8 H' s' → Nx H' → ∃ m, m < n ∧ ∃ i H', Inv (X.blk se He scope ce fp) [] (wipe σ (own.map (·.2))) H' s' ∧ tn i s'.heap ∧ (∀ b ∈ fp, H' b = none) ∧ W i m H' := fun {s' H'} J' nx => by
          obtain ⟨m', lt, w'⟩ := less H' nx
          have held : ∀ b ∈ fp, ∀ o, s7.heap.get? b = some o → s'.heap.get? b = some o ∧ H' b = none := fun b hb o e =>
            ⟨(J'.pin (b, o) (List.mem_append_right _ (List.mem_append_right _ (mem_pinsAt hb e)))).1, (J'.pin (b, o) (List.mem_append_right _ (List.mem_append_right _ (mem_pinsAt hb e)))).2.1⟩
          have wl : (wipe σ (own.map (·.2))).length = σ8.length := by rw [← wp8, wipe_length]
          refine ⟨m', lt, i + 1, H', (J'.unpinned (pins := [])).weak wl (fun j v e => (wipe_some (wp8 ▸ e)).1), T.keep _ _ _ t7 fun b hb o e => (held b hb o e).1, fun b hb => ?_, w'⟩
          obtain ⟨o, e, _⟩ := T.obj _ _ t7 b hb
          exact (held b hb o e).2
        cases b with
        | false =>
          simp only [Bool.false_eq_true, if_false] at q9 ⊢
          exact next J9 q9
        | true =>
          simp only [if_true] at q9 ⊢
          refine thnF (qe.run _ s9 σ8 H9 _ J9 q9) fun z s10 ⟨yv, H10, J10, r10, k, S0, n0, ey, at10, room, nx⟩ => ?_
          subst ey
          obtain ⟨tk, rfl⟩ := r10
          refine setR_add (setO_get (X := X.blk se He scope ce fp) J10 at10) room fun h' oth new => ?_
          obtain ⟨u, us, ue, ut, uo, urest⟩ := new
          exact next (J10.write (e := D) (t' := s10.toks + 1) (by rw [at10]; trivial) (.inl rfl) (fun b u hb hu => (oth.2 b hb).trans hu) ⟨u, uo⟩ (setO_new ⟨u, us, ue, ut, uo, urest⟩)) nx
    exact PpSet.codeAny_compStart_set run (T.self X.A 0 _ _ _ stk run)
  exact goal
/-! #### as data: sorted({..}) -/
/-- each once, in the order of coming -/
def ddF : List Int → List Int → List Int
  | acc, [] => acc
  | acc, k :: ks => ddF (if k ∈ acc then acc else acc ++ [k]) ks
theorem ddF_mem : ∀ (ks acc : List Int) (j : Int), j ∈ ddF acc ks ↔ j ∈ acc ∨ j ∈ ks
  | [], acc, j => by simp [ddF]
  | k :: ks, acc, j => by
    unfold ddF
    rw [ddF_mem ks]
    by_cases c : k ∈ acc
    · rw [if_pos c]
      constructor
      · rintro (h | h)
        · exact .inl h
        · exact .inr (List.mem_cons_of_mem _ h)
      · rintro (h | h)
        · exact .inl h
        · rcases List.mem_cons.mp h with rfl | h
          · exact .inl c
          · exact .inr h
    · rw [if_neg c]
      simp only [List.mem_append, List.mem_cons, List.not_mem_nil, or_false]
      constructor
      · rintro ((h | h) | h)
        · exact .inl h
        · exact .inr (.inl h)
        · exact .inr (.inr h)
      · rintro (h | h | h)
        · exact .inl (.inl h)
        · exact .inl (.inr h)
        · exact .inr h
def memS (acc : List Int) : Int → Bool := fun j => decide (j ∈ acc)
theorem memS_add {acc : List Int} {k : Int} : plusS (memS acc) k = memS (if k ∈ acc then acc else acc ++ [k]) := by
  funext j
  show (decide (j ∈ acc) || decide (j = k)) = decide _
  by_cases c : k ∈ acc
  · rw [if_pos c]
    by_cases d : j = k
    · subst d; simp [c]
    · simp [d]
  · rw [if_neg c]
    by_cases d : j = k
    · subst d; simp
    · simp [d]
theorem memS_len {acc : List Int} {k : Int} : (if memS acc k = true then acc.length else acc.length + 1) = (if k ∈ acc then acc else acc ++ [k]).length := by
  unfold memS
  by_cases c : k ∈ acc <;> simp [c]
theorem dd_nodup {acc : List Int} {k : Int} (h : acc.Nodup) : (if k ∈ acc then acc else acc ++ [k]).Nodup := by
  by_cases c : k ∈ acc
  · rw [if_pos c]; exact h
  · rw [if_neg c]
    exact List.nodup_append.mpr ⟨h, by simp, fun a ha b hb => by simp at hb; subst hb; exact fun z => c (z ▸ ha)⟩
theorem dd_len {acc : List Int} {k : Int} : (if k ∈ acc then acc else acc ++ [k]).length ≤ acc.length + 1 := by
  by_cases c : k ∈ acc <;> simp [c]
def sortSet (ns : List Int) : List Int := srtI (ddF [] ns)
def sortSetZ (c : D → Option Bool) (f : D → Option D) (ds : List D) : Option (List D) := if ds.length < 64 then (lcD c f ds).bind fun es => (intsD es).bind fun ns => some ((sortSet ns).map PyData.int) else none
theorem setO_ow {w : World} {o : Option HO} {a : Addr} {S : Int → Bool} {n : Nat} (h : o = some (SetO w a S n)) : Ow o := by
  subst h; exact ⟨Option.some_ne_none _, id⟩
theorem asc_one {xs ys : List Int} (hx : xs.Pairwise (· < ·)) (hy : ys.Nodup) (h : ∀ k, k ∈ xs ↔ k ∈ ys) : xs = srtI ys := by
  have nx : xs.Nodup := hx.imp fun h => Int.ne_of_lt h
  have p : xs.Perm (srtI ys) := ((List.perm_ext_iff_of_nodup nx hy).mpr h).trans (srtI_perm ys).symm
  exact sorted_one p (hx.imp fun h => Int.le_of_lt h) (srtI_sorted ys)
theorem room64 {n : Nat} (h : n < 64) : n + 1 < scanBound := Nat.lt_of_lt_of_le (by omega : n + 1 < 70) (by decide)
theorem dl_sortSet {K : PySem.W.Frag} {w : World} {env : En} {wi : TI} {tt : TT} {te : TE} {vs : List Nat} {j : Nat} {rI : Option (List D)} {c : D → Option Bool} {f : D → Option D}
    (hi : DI K env wi rI) (hc : ∀ x, DT K ((wipeE env vs).set j (.sh x)) tt (c x)) (hf : ∀ x, DV K ((wipeE env vs).set j (.sh x)) te (f x)) (hts : j ∈ vs := by decide) :
    DL K env (tCB (rSortedSet w) (tCons (tSci w wi (gName j) tt te vs) tNil)) (rI.bind (sortSetZ c f)) := fun σ G H Q out s gh e q => by
  obtain ⟨ds, e1, e2⟩ := bind_some e
  unfold sortSetZ at e2
  by_cases hz : ds.length < 64
  · rw [if_pos hz] at e2
    obtain ⟨es, e3, e4⟩ := bind_some e2
    obtain ⟨ns, e5, e6⟩ := bind_some e4
    cases e6
    refine hi σ G H _ ds s gh e1 fun J G1 H1 E1 ok => ?_
    intro Dd hD
    have gD : G1 Dd = none := E1.gh.free hD
    have E0 : Ext G1 H1 G1 (upd H1 Dd (SetO w Dd (fun _ => false) 0)) := Ext.own E1.gh hD
    have s0 : upd H1 Dd (SetO w Dd (fun _ => false) 0) Dd = some (SetO w Dd (memS []) ([] : List Int).length) := by
      rw [upd_same]
      have : memS [] = fun _ => false := funext fun j => by unfold memS; simp
      rw [this]; rfl
    refine ⟨fun i m H2 => i ≤ ds.length ∧ m = ds.length - i ∧ ∃ (G2 : Hp) (acc : List Int) (rest : List D) (ks : List Int), Ext G1 H1 G2 H2 ∧ H2 Dd = some (SetO w Dd (memS acc) acc.length) ∧ G2 Dd = none ∧ acc.length ≤ i ∧ acc.Nodup ∧ lcD c f (ds.drop i) = some rest ∧ intsD rest = some ks ∧ ddF acc ks = ddF [] ns,
      ⟨ds.length, Nat.zero_le _, by omega, G1, [], es, ns, E0, s0, gD, Nat.le_refl _, .nil, by simpa using e3, e5, rfl⟩, ?_⟩
    rintro i m H2 ⟨hi2, rfl, G2, acc, rest, ks, E2, hacc, gD2, hl, hn, hr, hk, ho⟩
    by_cases hlt : i < ds.length
    · right
      refine ⟨ok.go G2 H2 i E2.gg E2.gh hlt, fun H3 => ∃ m', m' < ds.length - i ∧ (i + 1 ≤ ds.length ∧ m' = ds.length - (i + 1) ∧ ∃ (G2 : Hp) (acc : List Int) (rest : List D) (ks : List Int), Ext G1 H1 G2 H3 ∧ H3 Dd = some (SetO w Dd (memS acc) acc.length) ∧ G2 Dd = none ∧ acc.length ≤ i + 1 ∧ acc.Nodup ∧ lcD c f (ds.drop (i + 1)) = some rest ∧ intsD rest = some ks ∧ ddF acc ks = ddF [] ns), fun H3 h => h, fun x H3 hy => ?_⟩
      have hget : ds[i]? = some ds[i] := List.getElem?_eq_getElem hlt
      obtain ⟨G3, E3, hx⟩ := ok.yl G2 H2 i x H3 ds[i] E2.gg E2.gh hget hy
      rw [drop_cons hlt] at hr
      unfold lcD at hr
      obtain ⟨bb, ec, hr⟩ := bind_some hr
      have hH3 : H3 Dd = some (SetO w Dd (memS acc) acc.length) := E3.hh _ _ hacc
      have gD3 : G3 Dd = none := E3.nwO (setO_ow hacc) gD2
      have sW : SE K ((wipeE env vs).set j (.sh ds[i])) ((L2.wipe σ vs).set j (some x)) G3 := ((s.wipe vs).mono ((E1.gg.trans E2.gg).trans E3.gg)).set j hx
      refine ⟨(wipe_set hts).trans wipe_idem, ?_⟩
      refine hc ds[i] _ G3 H3 _ bb sW E3.gh ec fun G4 H4 E4 => ?_
      have hH4 : H4 Dd = some (SetO w Dd (memS acc) acc.length) := E4.hh _ _ hH3
      have gD4 : G4 Dd = none := E4.nwO (setO_ow hH3) gD3
      have E14 := (E2.trans E3).trans E4
      cases bb with
      | true =>
        rw [if_pos rfl] at hr ⊢
        obtain ⟨y, ey, hr⟩ := bind_some hr
        obtain ⟨ys, eys, hr⟩ := bind_some hr
        cases hr
        refine hf ds[i] _ G4 H4 _ y (sW.mono E4.gg) E4.gh ey fun v G5 H5 E5 h5 => ?_
        have hH5 : H5 Dd = some (SetO w Dd (memS acc) acc.length) := E5.hh _ _ hH4
        have gD5 : G5 Dd = none := E5.nwO (setO_ow hH4) gD4
        have E15 := E14.trans E5
        cases y with
        | int k =>
          cases h5
          have hk' : (intsD ys).map (k :: ·) = some ks := hk
          obtain ⟨ks', k1, k2⟩ : ∃ ks', intsD ys = some ks' ∧ ks = k :: ks' := by
            cases z : intsD ys with
            | none => rw [z] at hk'; cases hk'
            | some ks' => rw [z] at hk'; cases hk'; exact ⟨ks', rfl, rfl⟩
          subst k2
          refine ⟨k, memS acc, acc.length, rfl, hH5, room64 (by omega), ds.length - (i + 1), by omega, hlt, rfl, G5, (if k ∈ acc then acc else acc ++ [k]), ys, ks', ?_, ?_, gD5, ?_, dd_nodup hn, eys, k1, ho⟩
          · refine ⟨E15.gg, fun bq o eq => ?_, fun bq o eq => ?_, E15.nw⟩
            · rw [upd_ne (ne_of_none eq hD)]; exact E15.hh bq o eq
            · rw [upd_ne (ne_of_none eq gD5)]; exact E15.gh bq o eq
          · rw [upd_same, memS_add, memS_len]
          · have := dd_len (acc := acc) (k := k); omega
        | _ => cases hk
      | false =>
        rw [if_neg Bool.false_ne_true] at hr ⊢
        exact ⟨ds.length - (i + 1), by omega, hlt, rfl, G4, acc, rest, ks, E14, hH4, gD4, by omega, hn, hr, hk, ho⟩
    · left
      have ei : i = ds.length := by omega
      subst ei
      rw [List.drop_length] at hr
      cases hr
      cases hk
      have ho' : acc = ddF [] ns := ho
      refine ⟨ok.stop G2 H2 _ E2.gg E2.gh (Nat.le_refl _), Dd, memS acc, acc.length, rfl, hacc, by omega, fun xs p ha hm _ hp => ?_⟩
      have ex : xs = srtI acc := asc_one ha hn fun k => by rw [hm]; unfold memS; exact decide_eq_true_iff
      have E12 := E1.trans E2
      refine q p _ G2 _ (E12.trans (Ext.own E2.gh hp)) (E12.hh.free hp) (E2.gh.free hp) upd_same ?_
      rw [ex, ho']
      exact dpa_ints _
  · rw [if_neg hz] at e2; cases e2
theorem kSortedSet {X : Cx} (w : World) (h : X.w = w := by rfl) (hc : X.calm = true := by rfl) : CallR X (.builtin "sorted") (rSortedSet w) := by
  subst h; exact cr_sortedSet hc
theorem kSci {X : Cx} (w : World) {elt tg iter : Expr} {ifs : List Expr} {scope : Scope} {own : List (PySem.Str × Nat)} {pos : Pos} {wi : TI} {g : TG} {tt : TT} {te : TE} (hc : X.calm = true) (hN : X.N.Nodup) (hi : PI X tg iter wi) (ok : BlkOk X.N X.env.scope scope own)
    (hg : ∀ (s : Shared) (H : Hp) (C : Addr) (cl : List (PySem.Str × Addr)) (fp : List Addr), PG (X.blk s H scope (compEnvC scope cl C X.env) fp) tg g) (ht : ∀ (s : Shared) (H : Hp) (C : Addr) (cl : List (PySem.Str × Addr)) (fp : List Addr), PTs (X.blk s H scope (compEnvC scope cl C X.env) fp) ifs tt)
    (he : ∀ (s : Shared) (H : Hp) (C : Addr) (cl : List (PySem.Str × Addr)) (fp : List Addr), PE (X.blk s H scope (compEnvC scope cl C X.env) fp) elt te) (h : X.w = w := by rfl) (hs : ∀ x, foldedSetIterable iter X.env x = pure x := by intro _; rfl) :
    PE X (.SetComp elt [⟨tg, iter, ifs, 0⟩] scope pos) (tSci w wi g tt te (own.map (·.2))) := by
  subst h; exact pe_sci hc hN hi ok hg ht he hs
end Dl

set_option Elab.async false
set_option linter.all false
set_option maxRecDepth 100000
set_option maxHeartbeats 2000000
namespace Dl
open PySem PySem.Spec PyProof.Rows L2
/-! defs with keyword-only parameters (all of them are written, behind n positional ones) -/
def catL' {α : Type} : List α → List α → List α := fun a b => a ++ b
structure DfK (P : Program) (w : World) (K : PySem.W.Frag) (mg : Str → Option Value) (base : Heap) (k : Nat) (x : Str) (ps : List Str) (n : Nat) (ks : List Str) (m : List D → Option D) : Prop where
  ex : ∃ f fd, mg x = some (.ref f) ∧ PySem.W.keepIn K (.ref f) = true ∧ KBn K fd ps n ks catL' catL' ∧ FnOk P w K mg base CX0 k f fd ps (spD K m)
theorem vals_app : ∀ {vs : List V} {us : List Value} {zs : List V} {ws : List Value}, Vals vs us → Vals zs ws → Vals (vs ++ zs) (us ++ ws)
  | _, _, _, _, .nil, k => k
  | _, _, _, _, .cons r t, k => .cons r (vals_app t k)
section
variable {P : Program} {w : World} {K : PySem.W.Frag} {mg : Str → Option Value} {base : Heap} {x qual : Str} {st : Stmt} {f : Addr} {fd : FuncData} {N ps ks : List Str} {k n : Nat}
/-- how they bind -/
theorem fun_kbn (F : Fun K x qual st f fd)
    (h : ∀ (kV doc pm : Value) (an : Option Addr) (cdv ct : Value) (us ws : List Value), us.length = n → ws.length = ks.length → bindArgs (PySem.W.fnOf x qual (defArgs st) (defBody st) (defScope st) .none kV doc pm an cdv ct) ⟨us, ks.zip ws⟩ = pure (ps.zip (us ++ ws))) : KBn K fd ps n ks catL' catL' := by
  obtain ⟨oc, od, kV, doc, pm, an, cdv, ct, osl, rfl, lk, hcd⟩ := F.ex
  exact ⟨fun s us ws _ l1 l2 => .of_eq (h kV doc pm an cdv ct us ws l1 l2), fun r t => vals_app r t⟩
theorem dfK_mk {m : List D → Option D} (F : Fun K x qual st f fd) (S : FnScope N ps (defScope st)) (hm : mg x = some (.ref f)) (hb : KBn K fd ps n ks catL' catL') (hl : ∀ ds d, m ds = some d → ds.length = ps.length) (hN : ps.length ≤ N.length)
    (body : ∀ (cdv : Value) (A : Around) (outer : List Env) (s : Shared) (H : Hp) (E : XK), Room k (A.deeper (envOfC qual (defScope st) s.heap.objs.size f cdv)) →
      ∃ t, PSs (cxOf CX0 P w K mg base N qual (defScope st) f cdv A outer s H E).nox (defBody st) t ∧
        ∀ ds d, m ds = some d → ∃ (β : Type) (eb : β → En) (α : Type) (en : α → En) (o : Out α β), DS K (.no (RtS K)) (env0 N.length ds) t en eb o ∧ o.run = some d) : DfK P w K mg base (k + 1) x ps n ks m := by
  refine ⟨f, fd, hm, F.kp, hb, ?_⟩
  refine F.ok S (fun vs H Q E h => ?_) fun cdv A outer s H vs Q E hr h => ?_
  · obtain ⟨G, ds, d, _, ha, e, _⟩ := h
    rw [dpa_len ha]; exact hl ds d e
  · obtain ⟨t, h1, h2⟩ := body cdv A outer s H E hr
    exact ⟨t, h1, fn_body h (fun ds d e => by rw [hl ds d e]; exact hN) h2⟩
end
theorem kDfK {X : Cx} (K : PySem.W.Frag) {k n : Nat} {x : Str} {ps ks : List Str} {e : Expr} {es : List Expr} {kws : List Keyword} {t tk : TA} {p pos : Pos} {m : List D → Option D} {P : Program} {w : World} {mg : Str → Option Value} {base : Heap} (d : DfK P w K mg base k x ps n ks m) (hr : Room k X.A) (hg : Gl X x) (ha : PA X (e :: es) t) (hkw : PK X kws tk)
    (h1 : X.prog = P := by rfl) (h2 : X.w = w := by rfl) (h3 : X.K = K := by rfl) (h4 : X.mg = mg := by rfl) (h5 : X.base = base := by rfl)
    (hall : (backToKw pos (keywordEach kws X.env)).all (·.1.isSome) = true := by rfl) (hks : (backToKw pos (keywordEach kws X.env)).filterMap (·.1) = ks := by rfl)
    (hdb : (x == ("__debug__" : Str)) = false := by decide) (he : starEach (e :: es) X.env = (false, eval e X.env) :: starEach es X.env := by rfl)
    (hpl : ((backTo pos (starEach (e :: es) X.env)).any (·.1) || (backToKw pos (keywordEach kws X.env)).any (·.1.isNone)) = false := by rfl) :
    PE X (.Call (.Name x p) (e :: es) kws pos) (tCallN n ks.length (spD K m) catL' E0 t tk) := by
  subst h1; subst h2; subst h3; subst h4; subst h5
  obtain ⟨f, fd, h1, h2, h3, h4⟩ := d.ex
  exact pe_callN h4 hr hg h1 h2 h3 pass0 ha hkw hall hks hdb he hpl
def callK (n j : Nat) (m : List D → Option D) (rA rK : Option (List D)) : Option D := rA.bind fun xs => rK.bind fun ys => if xs.length = n ∧ ys.length = j then m (xs ++ ys) else none
theorem dv_callK {K : PySem.W.Frag} {env : En} {tA tK : TA} {rA rK : Option (List D)} {m : List D → Option D} {E : XK} {n j : Nat} (h : DA K env tA rA) (hk : DA K env tK rK) : DV K env (tCallN n j (spD K m) catL' E tA tK) (callK n j m rA rK) := fun σ G H Q d s g e q => by
  obtain ⟨xs, e1, e2⟩ := bind_some e
  obtain ⟨ys, e3, e4⟩ := bind_some e2
  by_cases z : xs.length = n ∧ ys.length = j
  · rw [if_pos z] at e4
    refine h σ G H _ xs s g e1 fun vs G1 H1 E1 h1 => ?_
    refine hk σ G1 H1 _ ys (s.mono E1.gg) E1.gh e3 fun zs G2 H2 E2 h2 => ?_
    refine ⟨(dpa_len h1).trans z.1, (dpa_len h2).trans z.2, G2, xs ++ ys, d, E2.gh, dpa_app (dpa_mono E2.gg _ _ h1) h2, e4, fun u G3 H3 E3 h3 => q u G3 H3 ((E1.trans E2).trans E3) h3⟩
  · rw [if_neg z] at e4; cases e4
end Dl

set_option Elab.async false
set_option linter.all false
set_option maxRecDepth 100000
set_option maxHeartbeats 2000000
namespace Dl
open PySem PySem.Spec PyProof.Rows L2
/-! ### keyword-only parameters, a list of nobody's handed back; reversed; extend by a new list -/
structure DfKL (P : Program) (w : World) (K : PySem.W.Frag) (mg : Str → Option Value) (base : Heap) (k : Nat) (x : Str) (ps : List Str) (n : Nat) (ks : List Str) (m : List D → Option D) : Prop where
  ex : ∃ f fd, mg x = some (.ref f) ∧ PySem.W.keepIn K (.ref f) = true ∧ KBn K fd ps n ks catL' catL' ∧ FnOk P w K mg base CX0 k f fd ps (spL K m)
section
variable {P : Program} {w : World} {K : PySem.W.Frag} {mg : Str → Option Value} {base : Heap} {x qual : Str} {st : Stmt} {f : Addr} {fd : FuncData} {N ps ks : List Str} {k n : Nat}
theorem dfKL_mk {m : List D → Option D} (F : Fun K x qual st f fd) (S : FnScope N ps (defScope st)) (hm : mg x = some (.ref f)) (hb : KBn K fd ps n ks catL' catL') (hl : ∀ ds d, m ds = some d → ds.length = ps.length) (hN : ps.length ≤ N.length)
    (body : ∀ (cdv : Value) (A : Around) (outer : List Env) (s : Shared) (H : Hp) (E : XK), Room k (A.deeper (envOfC qual (defScope st) s.heap.objs.size f cdv)) →
      ∃ t, PSs (cxOf CX0 P w K mg base N qual (defScope st) f cdv A outer s H E).nox (defBody st) t ∧
        ∀ ds d, m ds = some d → ∃ (β : Type) (eb : β → En) (en : Empty → En) (o : Out Empty β), DS K (.no (RtL K)) (env0 N.length ds) t en eb o ∧ o.run = some d) : DfKL P w K mg base (k + 1) x ps n ks m := by
  refine ⟨f, fd, hm, F.kp, hb, ?_⟩
  refine F.ok S (fun vs H Q E h => ?_) fun cdv A outer s H vs Q E hr h => ?_
  · obtain ⟨G, ds, d, _, ha, e, _⟩ := h
    rw [dpa_len ha]; exact hl ds d e
  · obtain ⟨t, h1, h2⟩ := body cdv A outer s H E hr
    exact ⟨t, h1, fn_bodyL h (fun ds d e => by rw [hl ds d e]; exact hN) h2⟩
end
theorem kDfKL {X : Cx} (K : PySem.W.Frag) {k n : Nat} {x : Str} {ps ks : List Str} {e : Expr} {es : List Expr} {kws : List Keyword} {t tk : TA} {p pos : Pos} {m : List D → Option D} {P : Program} {w : World} {mg : Str → Option Value} {base : Heap} (d : DfKL P w K mg base k x ps n ks m) (hr : Room k X.A) (hg : Gl X x) (ha : PA X (e :: es) t) (hkw : PK X kws tk)
    (h1 : X.prog = P := by rfl) (h2 : X.w = w := by rfl) (h3 : X.K = K := by rfl) (h4 : X.mg = mg := by rfl) (h5 : X.base = base := by rfl)
    (hall : (backToKw pos (keywordEach kws X.env)).all (·.1.isSome) = true := by rfl) (hks : (backToKw pos (keywordEach kws X.env)).filterMap (·.1) = ks := by rfl)
    (hdb : (x == ("__debug__" : Str)) = false := by decide) (he : starEach (e :: es) X.env = (false, eval e X.env) :: starEach es X.env := by rfl)
    (hpl : ((backTo pos (starEach (e :: es) X.env)).any (·.1) || (backToKw pos (keywordEach kws X.env)).any (·.1.isNone)) = false := by rfl) :
    PE X (.Call (.Name x p) (e :: es) kws pos) (tCallN n ks.length (spL K m) catL' E0 t tk) := by
  subst h1; subst h2; subst h3; subst h4; subst h5
  obtain ⟨f, fd, h1, h2, h3, h4⟩ := d.ex
  exact pe_callN h4 hr hg h1 h2 h3 pass0 ha hkw hall hks hdb he hpl
theorem dl_callK {K : PySem.W.Frag} {env : En} {tA tK : TA} {rA rK : Option (List D)} {m : List D → Option D} {E : XK} {n j : Nat} (h : DA K env tA rA) (hk : DA K env tK rK) : DL K env (tCallN n j (spL K m) catL' E tA tK) ((callK n j m rA rK).bind asL) := fun σ G H Q es s g e q => by
  obtain ⟨d, e0, e5⟩ := bind_some e
  have := asL_some e5; subst this
  obtain ⟨xs, e1, e2⟩ := bind_some e0
  obtain ⟨ys, e3, e4⟩ := bind_some e2
  by_cases z : xs.length = n ∧ ys.length = j
  · rw [if_pos z] at e4
    refine h σ G H _ xs s g e1 fun vs G1 H1 E1 h1 => ?_
    refine hk σ G1 H1 _ ys (s.mono E1.gg) E1.gh e3 fun zs G2 H2 E2 h2 => ?_
    refine ⟨(dpa_len h1).trans z.1, (dpa_len h2).trans z.2, G2, xs ++ ys, _, E2.gh, dpa_app (dpa_mono E2.gg _ _ h1) h2, e4, ?_⟩
    rintro v G' H' ⟨E', p, us, es', rfl, e6, hp, gp, hl, hd⟩
    cases e6
    have E12 := E1.trans E2
    exact q p us G' H' (E12.trans E') (E12.hh.free hp) gp hl hd
  · rw [if_neg z] at e4; cases e4
def revD : List D → Option (List D)
  | [.list ds] => some ds.reverse
  | _ => none
theorem it_rev {K : PySem.W.Frag} {G : Hp} {a : Addr} {xs : List V} {ds : List D} (hs : SqL K G a xs) (hd : DpAll K G xs ds) : ItOk K G (Itv K a xs.length) ds.reverse := by
  have hl := dpa_len hd
  refine ⟨fun G1 H1 i g h hi => ?_, fun G1 H1 i x H2 d g h hi hy => ?_, fun G1 H1 i g h hi => ?_⟩
  · rw [List.length_reverse] at hi
    have hk : xs.length - 1 - i < xs.length := by omega
    exact ⟨by omega, xs, xs[xs.length - 1 - i], h.seq (g.seq hs), List.getElem?_eq_getElem hk⟩
  · obtain ⟨rfl, hx⟩ := hy
    have hlt : i < ds.length := by
      rcases Nat.lt_or_ge i ds.reverse.length with z | z
      · rwa [List.length_reverse] at z
      · rw [List.getElem?_eq_none z] at hi; cases hi
    rw [List.getElem?_reverse hlt, ← hl] at hi
    exact ⟨G1, Ext.refl h, dp_mono g d x (dpa_get' hd hi (hx xs (h.seq (g.seq hs))))⟩
  · rw [List.length_reverse] at hi
    show xs.length ≤ i
    omega
section
variable {K : PySem.W.Frag} {M : Md} {env : En} {te : TE} {tA : TA} {rA : Option (List D)} {α β : Type} {en : α → En} {eb : β → En}
theorem di_rev (h : DA K env tA rA) : DI K env (iRev K tA) (rA.bind revD) := fun σ G H R ds s g e q => by
  obtain ⟨x, ex, e⟩ := bind_some e
  refine h σ G H _ _ s g ex fun vs G1 H1 E1 h1 => ?_
  match x, h1, e with
  | [.list es], h1, e =>
    cases e
    cases h1 with
    | cons r t => cases t; cases r with
      | lst hs hd => exact ⟨_, _, rfl, .inl (.inl (E1.gh _ _ hs)), q _ G1 H1 E1 (it_rev (.inl (.inl hs)) hd)⟩
theorem kiRev {X : Cx} (K : PySem.W.Frag) {tg e : Expr} {ta : TA} {p pos : Pos} (hg : Gl X "reversed") (hm : X.mg "reversed" = none) (ha : PA X [e] ta) (h : X.K = K := by rfl) (hs : starEach [e] X.env = [(false, eval e X.env)] := by rfl) : PI X tg (.Call (.Name "reversed" p) [e] [] pos) (iRev K ta) := by
  subst h; exact pi_reversed hg hm ha hs
/-- xs.extend(e), xs an own list, e a new one -/
theorem ds_extE {i : Nat} {ds : List D} (hi : env[i]? = some (Sl.ow ds)) (h : DL K (noOw env) te rA) :
    DS K M env (tDrop (tBM K "list" rExtend (tVar i) (tCons te tNil))) (fun zs => env.set i (.ow zs)) eb (toO (rA.bind (extL ds))) := fun σ G0 H0 B G H T s q => by
  cases rA with
  | none => exact q.elim
  | some es =>
    obtain ⟨l, xs, h1, h2, h3, h4, h5⟩ := s.ow i ds hi
    refine ⟨.ref l, h1, Or.inl ⟨rfl, _, Or.inl (Or.inl h2)⟩, ?_⟩
    refine h σ G H _ es s.shd s.ext.gh rfl fun p ys G' H' E hp gp hl hd => ?_
    have s' := s.ext' E
    have h2' := E.hh _ _ h2
    change Post K M _ eb T G0 H0 B (toO (extL ds es)) at q
    unfold extL at q
    by_cases hz : ds.length + es.length ≤ sizeLine
    · rw [if_pos hz] at q
      exact ⟨l, p, xs, ys, rfl, rfl, h2', hl, by rw [dpa_len h5, dpa_len hd]; exact hz, q σ G' _ (s'.chg hi h1 h2' (dpa_app (dpa_mono E.gg _ _ h5) hd))⟩
    · rw [if_neg hz] at q; exact q.elim
end
end Dl

set_option Elab.async false
set_option linter.all false
set_option maxRecDepth 100000
set_option maxHeartbeats 2000000
namespace Dl
open PySem PySem.Spec PyProof.Rows L2
section
variable {K : PySem.W.Frag} {M : Md} {env : En} {te : TE} {re : Option D} {β : Type} {eb : β → En}
/-- x = {} -/
theorem ds_dnew {i : Nat} : DS K M env (tAsg tDNewK (gName i)) (fun m : IM => env.set i (.od m)) eb (.nx [] : Out IM β) := fun σ G0 H0 B G H T s q p hp => by
  refine q _ G _ (s.put (Ext.own s.ext.gh hp) (sl := .od []) (S := [p]) i ⟨p, rfl, rfl, upd_same⟩ fun a ha => ?_)
  simp at ha; subst ha
  exact ⟨hp, s.ext.gh.free hp, ow_dK upd_same⟩
def putO (m : IM) (rk re : Option D) : Option IM := re.bind fun v => rk.bind fun k => putD m k v
/-- d[k] = e -/
theorem ds_dput {i : Nat} {m : IM} {ti : TE} {rk : Option D} (hi : env[i]? = some (Sl.od m)) (he : DV K env te re) (hk : DV K env ti rk) :
    DS K M env (tAsg te (gSub (tVar i) ti rSetD)) (fun m' => env.set i (.od m')) eb (toO (putO m rk re)) := fun σ G0 H0 B G H T s q => by
  cases e : putO m rk re with
  | none => rw [e] at q; exact q.elim
  | some m' =>
    rw [e] at q
    obtain ⟨v, ev, e⟩ := bind_some e
    obtain ⟨k, ek, e⟩ := bind_some e
    refine he σ H H _ v s.all (Same.refl H) ev fun w G1 H1 E1 hw => ?_
    have s1 := s.grow E1.hh
    obtain ⟨a, h1, ha1⟩ := s1.od i m hi
    refine ⟨.ref a, h1, hk σ H1 H1 _ k s1.all (Same.refl H1) ek fun u G2 H2 E2 hu => ?_⟩
    have s2 := s1.grow E2.hh
    obtain ⟨a2, h2, ha2⟩ := s2.od i m hi
    rw [h1] at h2; cases h2
    cases k with
    | int k =>
      cases v with
      | int z =>
        cases hw; cases hu
        have e : (if m.length < sizeLine then some (putI m k z) else none) = some m' := e
        by_cases hz : m.length < sizeLine
        · rw [if_pos hz] at e; cases e
          refine ⟨a, _, rfl, .inl ⟨kvI m, .inl k, ha2, rfl, by unfold kvI; rw [List.length_map]; exact hz, rfl⟩, ?_⟩
          rw [putK_kvI]
          exact q σ G _ (s2.chgD hi h1)
        · rw [if_neg hz] at e; cases e
      | _ => cases e
    | _ => cases v <;> cases e
end
end Dl

set_option Elab.async false
set_option linter.all false
set_option maxRecDepth 100000
set_option maxHeartbeats 2000000
namespace Dl
open PySem PySem.Spec PyProof.Rows L2
/-! ### min(a, b) of two ints -/
theorem cr_min2 {X : Cx} (hc : X.calm = true) : CallR X (.builtin "min") (fun vs H Q => ∃ a b, vs = [.int a, .int b] ∧ Q (.int (if b < a then b else a)) H) := fun pins s σ H xs us Q I hv h => by
  obtain ⟨a, b, rfl, q⟩ := h
  cases hv with
  | cons r1 hv =>
  cases hv with
  | cons r2 hv =>
  cases hv
  obtain ⟨t, rfl⟩ := r1
  obtain ⟨u, rfl⟩ := r2
  have hd : X.A.handled = none := I.ok.hd hc
  have zT : H s.heap.objs.size = none := I.hok.fresh (Nat.le_refl _)
  obtain ⟨k0, k1, k2, k3, k4, k5⟩ := I.fpOk (Nat.le_refl _) zT
  refine call_min_two (wpAny_pyIter_tuple (items := #[.int a t, .int b u]) ⟨_, Heap.get?_push_size _ rfl, rfl, _, rfl⟩ ?_)
  generalize hh1 : s.heap.push { cls := .type "tuple", data := .seq #[.int a t, .int b u] } = h1
  have e1 : h1.objs.size = s.heap.objs.size + 1 := by rw [← hh1, Heap.size_push]
  refine ⟨h1.objs.size, [h1.objs.size, s.heap.objs.size], [h1.objs.size], 2, _, _, _, rfl, Walks.tuple (A := X.A.in1) hd h1.objs.size s.heap.objs.size (by rw [e1]; exact Nat.ne_of_lt (Nat.lt_succ_self _)) #[.int a t, .int b u], ⟨⟨_, Heap.get?_push_size _ rfl, rfl, rfl⟩, ⟨_, Heap.get?_push_of_some _ (by rw [← hh1]; exact Heap.get?_push_size _ rfl), rfl, _, rfl⟩⟩, fun c hcm => ?_, by decide, CmpOf.ints_lt (fun i => if i = 0 then a else b) fun i v e => ?_, fun v h' tk hp hk => ?_⟩
  · show c < (Heap.push h1 _).objs.size
    rw [Heap.size_push, e1]
    simp only [List.mem_cons, List.not_mem_nil, or_false] at hcm
    rcases hcm with rfl | rfl
    · rw [e1]; exact Nat.lt_succ_self _
    · exact Nat.lt_succ_of_lt (Nat.lt_succ_self _)
  · match i, e with
    | 0, e => simp at e; exact ⟨t, e.symm⟩
    | 1, e => simp at e; exact ⟨u, e.symm⟩
    | n + 2, e => simp at e
  · have J : L2.Inv X pins σ H { heap := h', gens := s.gens, drawn := s.drawn, toks := tk, os := s.os } := by
      refine I.turned (it := s.heap.objs.size) (fun c o hne e => ?_) k0 k1 k3 k4 k5
      refine hk c o (fun hm => ?_) (Heap.get?_push_of_some _ (by rw [← hh1]; exact Heap.get?_push_of_some _ e))
      have z : c = h1.objs.size := by simpa using hm
      have l : c < s.heap.objs.size := Heap.lt_size e
      rw [z, e1] at l
      exact absurd l (Nat.not_lt.mpr (Nat.le_succ _))
    refine ⟨.int (if b < a then b else a), H, J, ?_, q⟩
    · have ab : argBest (fun i j => decide ((if i = 0 then a else b) < (if j = 0 then a else b))) 1 = if b < a then 1 else 0 := by
        simp [argBest]
      have hp' : (#[Value.int a t, .int b u])[argBest (fun i j => decide ((if i = 0 then a else b) < (if j = 0 then a else b))) 1]? = some v := hp
      rw [ab] at hp'
      by_cases c : b < a
      · rw [if_pos c] at hp' ⊢
        simp at hp'; exact ⟨u, hp'.symm⟩
      · rw [if_neg c] at hp' ⊢
        simp at hp'; exact ⟨t, hp'.symm⟩
theorem kMin2 {X : Cx} (hc : X.calm = true := by rfl) : CallR X (.builtin "min") (fun vs H Q => ∃ a b, vs = [.int a, .int b] ∧ Q (.int (if b < a then b else a)) H) := cr_min2 hc
def min2D : List D → Option D
  | [.int i, .int j] => some (.int (if j < i then j else i))
  | _ => none
theorem cd_min2 {K : PySem.W.Frag} : ClD K (fun vs H Q => ∃ a b, vs = [.int a, .int b] ∧ Q (.int (if b < a then b else a)) H) min2D := fun G H Q xs d vs g hx e q =>
  match xs, hx, e with
  | [.int i, .int j], .cons (.int _) (.cons (.int _) .nil), e => by cases e; exact ⟨i, j, rfl, q _ G H (Ext.refl g) (.int _)⟩
end Dl
namespace Dl
open PySem PySem.Spec PyProof.Rows L2
/-! ### a, b = two new lists -/
def pairO (r s : Option (List D)) : Option (List D × List D) := r.bind fun a => s.bind fun b => some (a, b)
theorem ds_parL {K : PySem.W.Frag} {M : Md} {env : En} {β : Type} {eb : β → En} {te1 te2 : TE} {rA rB : Option (List D)} {i j : Nat} (h1 : DL K (noOw env) te1 rA) (h2 : DL K (noOw env) te2 rB) :
    DS K M env (tPar i j (tCons te1 (tCons te2 tNil))) (fun (p : List D × List D) => (env.set i (.ow p.1)).set j (.ow p.2)) eb (toO (pairO rA rB)) := fun σ G0 H0 B G H T s q => by
  cases e1 : rA with
  | none => rw [e1] at q; exact q.elim
  | some ds =>
    cases e2 : rB with
    | none => rw [e1, e2] at q; exact q.elim
    | some es =>
      rw [e1, e2] at q
      refine h1 σ G H _ ds s.shd s.ext.gh e1 fun p xs G1 H1 E1 hp gp hl hd => ?_
      refine h2 σ G1 H1 _ es (s.shd.mono E1.gg) E1.gh e2 fun p2 xs2 G2 H2 E2 hp2 gp2 hl2 hd2 => ?_
      exact ⟨_, _, rfl, q _ G2 H2 ((s.newO E1 i hp gp hl hd).newO E2 j hp2 gp2 hl2 hd2)⟩
end Dl

set_option Elab.async false
set_option linter.all false
set_option maxRecDepth 100000
set_option maxHeartbeats 2000000
namespace Dl
open PySem PySem.Spec PyProof.Rows L2
/-! ### a, b = e where someone else's data are seen -/
section
variable {K : PySem.W.Frag} {M : Md} {env : En} {te : TE} {ra : Option D} {β : Type} {eb : β → En}
theorem ds_unpF {i j : Nat} (h : DVX K env (noOw env) te ra) : DS K M env (tAsg te (gTup K 2 (gCons (gName i) (gCons (gName j) gNil)))) (fun (p : D × D) => (env.set i (.sh p.1)).set j (.sh p.2)) eb (toO (twoO (ra.bind asU))) := fun σ G0 H0 B G H T s q => by
  cases e : twoO (ra.bind asU) with
  | none => rw [e] at q; exact q.elim
  | some p =>
    rw [e] at q
    obtain ⟨ds, e1, e2⟩ := bind_some e
    obtain ⟨x, ex, eu⟩ := bind_some e1
    have := asU_some eu; subst this
    match ds, e1, eu, e2, ex with
    | [a, b], e1, eu, e2, ex =>
      cases e2
      refine h σ G H _ _ s.all s.shd s.ext.gh ex fun v G1 H1 E1 hv => ?_
      cases hv with
      | tup hs hd =>
        have s1 := s.ext' E1
        refine ⟨_, _, rfl, sqt_mono E1.gh hs, by rw [dpa_len hd]; rfl, ?_⟩
        cases hd with
        | cons r t => cases t with
          | cons r2 t => cases t; exact ⟨_, _, rfl, _, _, rfl, rfl, q _ G1 H1 ((s1.set i r).set j r2)⟩
/-- a, b = x, x a pair of someone else: so are its parts -/
theorem ds_unpFo {n i j : Nat} {d : D} (hn : env[n]? = some (Sl.fo d)) : DS K M env (tAsg (tVar n) (gTup K 2 (gCons (gName i) (gCons (gName j) gNil)))) (fun (p : D × D) => (env.set i (.fo p.1)).set j (.fo p.2)) eb (toO (twoO ((some d).bind asU))) := fun σ G0 H0 B G H T s q => by
  cases e : twoO ((some d).bind asU) with
  | none => rw [e] at q; exact q.elim
  | some p =>
    rw [e] at q
    obtain ⟨ds, e1, e2⟩ := bind_some e
    have eu : asU d = some ds := e1
    have := asU_some eu; subst this
    match ds, e1, eu, e2 with
    | [a, b], e1, eu, e2 =>
      cases e2
      obtain ⟨fp, f1, _⟩ := s.fp
      obtain ⟨o, so, _, v, rfl, hv⟩ := f1 n _ hn
      cases hv with
      | tup hs hd =>
        refine ⟨_, so, _, _, rfl, sqt_mono s.ext.hh hs, by rw [dpa_len hd]; rfl, ?_⟩
        cases hd with
        | cons r t => cases t with
          | cons r2 t =>
            cases t
            refine ⟨_, _, rfl, _, _, rfl, rfl, q _ G H ?_⟩
            exact (s.put (Ext.refl s.ext.gh) (sl := .fo a) (S := []) i ⟨rfl, _, rfl, r⟩ fun x hx => absurd hx List.not_mem_nil).put (Ext.refl s.ext.gh) (sl := .fo b) (S := []) j ⟨rfl, _, rfl, r2⟩ fun x hx => absurd hx List.not_mem_nil
end
section
variable {K : PySem.W.Frag} {e eG : En} {wi : TI} {tt : TT} {te : TE} {vs : List Nat} {i j : Nat} {rI : Option (List D)}
theorem dlx_lc2 {c : D → D → Option Bool} {f : D → D → Option D} (hi : DI K e wi rI)
    (hc : ∀ x y, DT K (((wipeE e vs).set i (.sh x)).set j (.sh y)) tt (c x y)) (hf : ∀ x y, DVX K (((wipeE e vs).set i (.sh x)).set j (.sh y)) (wipeE eG vs) te (f x y)) (hts : i ∈ vs ∧ j ∈ vs := by decide) :
    DLX K e eG (tLc wi (gTup K 2 (gCons (gName i) (gCons (gName j) gNil))) tt te vs) (rI.bind (lcZ (fun x => twoD x c none) (fun x => twoD x f none))) := by
  refine dlx_lc hi (bg_tup (bgs_cons (bg_name i) (bgs_cons (bg_name j) bgs_nil))) (by intro n hn; simp at hn; rcases hn with rfl | rfl; exact hts.1; exact hts.2) (fun x env' h => ?_) (fun x env' h => ?_) fun x y h => ?_
  · obtain ⟨a, b, rfl, rfl⟩ := key2 h; exact hc a b
  · obtain ⟨a, b, rfl, rfl⟩ := key2 h; exact hf a b
  · unfold twoD at h
    split at h
    · exact ⟨_, rfl⟩
    · cases h
end
end Dl
namespace Dl
open PySem PySem.Spec PyProof.Rows L2
/-! ### a def that may raise, called where it does not -/
def okR' (r : Option Rs) : Option D := match r with
  | some (.ok d) => some d
  | _ => none
theorem DfX.df {P : Program} {w : World} {K : PySem.W.Frag} {mg : Str → Option Value} {FN : Str → List Str} {base : Heap} {k : Nat} {x : Str} {ps : List Str} {m : List D → Option Rs} (d : DfX P w K mg FN base k x ps m) : Df P w K mg base k x ps (fun ds => okR' (m ds)) := by
  obtain ⟨f, fd, h1, h2, h3, h4⟩ := d.ex
  have conv : ∀ {vs : List V} {H : Hp} {Q : VK} {E : XK}, spD K (fun ds => okR' (m ds)) vs H Q E → spX K mg FN m vs H Q (fun _ _ _ => False) := fun h => by
    obtain ⟨G, ds, d, g, ha, e, q⟩ := h
    have e : okR' (m ds) = some d := e
    cases er : m ds with
    | none => rw [er] at e; cases e
    | some r =>
      cases r with
      | xc x => rw [er] at e; cases e
      | ok d' =>
        rw [er] at e
        cases e
        exact ⟨G, ds, .ok d, g, ha, er, fun d2 e2 v G' H' E hv => by cases e2; exact q v G' H' E hv, fun x e2 => by cases e2⟩
  refine ⟨f, fd, h1, h2, h3, ⟨fun vs H Q E h => h4.1 vs H Q _ (conv h), fun A outer s H args us vs Q E hr he hb hv hs => ?_⟩⟩
  refine codeAny_mono (h4.2 A outer s H args us vs Q _ hr he hb hv (conv hs)) fun r s' hc => ?_
  cases r with
  | ok fl => cases fl <;> exact hc
  | error e =>
    obtain ⟨a, B, H', cls, d, _, _, _, _, _, _, _, no⟩ := (hc : L2N.CX P w outer H s (fun _ _ _ => False) e s')
    exact no.elim
end Dl

set_option Elab.async false
set_option linter.all false
set_option maxRecDepth 100000
set_option maxHeartbeats 2000000
namespace Dl
open PySem PySem.Spec PyProof.Rows L2
/-! ### great ints: * and // -/
def lgI (i : Int) : Nat := i.natAbs.log2
def okMW (i j : Int) : Bool := Nat.ble (lgI i + lgI j) 999999
def okDW (j : Int) : Bool := match j with
  | .ofNat 0 => false
  | .ofNat (n + 1) => Nat.ble (lgI (.ofNat (n + 1))) 8999
  | .negSucc _ => false
theorem okDW_of {j : Int} (h : okDW j = true) : 0 < j ∧ j.natAbs.log2 < 9000 := by
  cases j with
  | ofNat n => cases n with
    | zero => cases h
    | succ n =>
      have := Nat.le_of_ble_eq_true h
      unfold lgI at this
      exact ⟨by show (0 : Int) < ((n + 1 : Nat) : Int); omega, by omega⟩
  | negSucc n => cases h
theorem okDW_by {j : Int} (h0 : 0 < j) (h : j.natAbs < 2 ^ 9000) : okDW j = true := by
  have := PySem.Flt.log2_lt_of (show 0 < 9000 by decide) h
  cases j with
  | ofNat n => cases n with
    | zero => exact absurd h0 (Int.lt_irrefl 0)
    | succ n =>
      refine Nat.ble_eq_true_of_le ?_
      unfold lgI
      omega
  | negSucc n => exact absurd h0 (by omega)
theorem okMW_of {i j : Int} (h : okMW i j = true) : CMulW i j := by
  have := Nat.le_of_ble_eq_true h
  unfold lgI at this
  unfold CMulW
  omega
theorem okMW_by {i j : Int} {a b : Nat} (ha : i.natAbs < 2 ^ a) (hb : j.natAbs < 2 ^ b) (h0 : 0 < a) (h1 : 0 < b) (h : a + b ≤ 1000000) : okMW i j = true := by
  have := wide_mul ha hb h0 h1 h
  unfold CMulW at this
  refine Nat.ble_eq_true_of_le ?_
  unfold lgI
  omega
def mulW : D → D → Option D := intD okMW fun i j => .int (i * j)
theorem od_mulW {K : PySem.W.Frag} : OpD K (rI CMulW fun i j => .int (i * j)) mulW := od_rI (fun _ _ h => okMW_of h) fun _ _ _ => .int _
def fdivW : D → D → Option D := intD (fun _ j => okDW j) fun i j => .int (i / j)
theorem od_fdivW {K : PySem.W.Frag} : OpD K (rI CDivW fun i j => .int (i / j)) fdivW := od_rI (fun _ _ h => okDW_of h) fun _ _ _ => .int _
theorem mulW_ok {i j : Int} (h : okMW i j = true) : mulW (.int i) (.int j) = some (.int (i * j)) := if_pos h
theorem fdivW_ok {i j : Int} (h : okDW j = true) : fdivW (.int i) (.int j) = some (.int (i / j)) := if_pos h
def ipMW : TIp := rI CMulW fun i j => .int (i * j)
theorem ip_mulW {X : Cx} : PIp X .Mult ipMW := by
  intro pins s σ H x y v u Q I r1 r2 h
  obtain ⟨i, j, e1, e2, c, q⟩ := h
  subst e1; subst e2
  obtain ⟨t, rfl⟩ := r1
  obtain ⟨t', rfl⟩ := r2
  exact imul_int ⟨.int _, H, I.tok _, ⟨_, rfl⟩, q⟩ c.ok
theorem id_mulW {K : PySem.W.Frag} : IpD K ipMW mulW := od_mulW
/-! ### lcm -/
def rLcm : List V → Hp → VK → Prop := fun vs H Q => ∃ a b : Int, vs = [.int a, .int b] ∧ (a.natAbs < 2 ^ 64 ∧ b.natAbs < 2 ^ 64) ∧ Q (.int ((Nat.lcm a.natAbs b.natAbs : Nat) : Int)) H
theorem cr_lcm {X : Cx} : CallR X (.builtin "math.lcm") rLcm := by
  intro pins s σ H vs us Q I r h
  obtain ⟨a, b, rfl, ⟨ha, hb⟩, q⟩ := h
  obtain ⟨t, u, rfl⟩ := Vals.int2 r
  exact PySem.W.mc_lcm ha hb fun _ => ⟨.int _, H, I.tok _, ⟨_, rfl⟩, q⟩
def lt64 (n : Nat) : Bool := Nat.ble n 18446744073709551615
theorem lt64_of {n : Nat} (h : lt64 n = true) : n < 2 ^ 64 := by
  have := Nat.le_of_ble_eq_true h
  omega
theorem lt64_by {n : Nat} (h : n < 18446744073709551616) : lt64 n = true := Nat.ble_eq_true_of_le (by omega)
def lcmD : List D → Option D
  | [.int a, .int b] => if (lt64 a.natAbs && lt64 b.natAbs) = true then some (.int ((Nat.lcm a.natAbs b.natAbs : Nat) : Int)) else none
  | _ => none
theorem cd_lcm {K : PySem.W.Frag} : ClD K rLcm lcmD := fun G H Q xs d vs g hx e q => by
  match xs, hx, e with
  | [.int a, .int b], .cons (.int _) (.cons (.int _) .nil), e =>
    replace e : (if (lt64 a.natAbs && lt64 b.natAbs) = true then some (PyData.int ((Nat.lcm a.natAbs b.natAbs : Nat) : Int)) else none) = some d := e
    by_cases hz : (lt64 a.natAbs && lt64 b.natAbs) = true
    · rw [if_pos hz] at e; cases e
      rw [Bool.and_eq_true] at hz
      exact ⟨a, b, rfl, ⟨lt64_of hz.1, lt64_of hz.2⟩, q _ G H (Ext.refl g) (.int _)⟩
    · rw [if_neg hz] at e; cases e
/-! ### min of a list, max of two ints -/
def minL : Int → List Int → Int
  | m, [] => m
  | m, x :: xs => minL (if x < m then x else m) xs
theorem minL_mem : ∀ (m : Int) (xs : List Int), minL m xs = m ∨ minL m xs ∈ xs
  | m, [] => .inl rfl
  | m, x :: xs => by
    unfold minL
    rcases minL_mem (if x < m then x else m) xs with h | h
    · rw [h]
      by_cases c : x < m
      · rw [if_pos c]; exact .inr (by simp)
      · rw [if_neg c]; exact .inl rfl
    · exact .inr (by simp [h])
theorem minL_le : ∀ (m : Int) (xs : List Int), minL m xs ≤ m ∧ ∀ y ∈ xs, minL m xs ≤ y
  | m, [] => ⟨Int.le_refl _, fun _ h => by cases h⟩
  | m, x :: xs => by
    unfold minL
    obtain ⟨h1, h2⟩ := minL_le (if x < m then x else m) xs
    by_cases c : x < m
    · rw [if_pos c] at h1 h2 ⊢
      refine ⟨by omega, fun y hy => ?_⟩
      rcases List.mem_cons.mp hy with rfl | hy
      · exact h1
      · exact h2 y hy
    · rw [if_neg c] at h1 h2 ⊢
      refine ⟨h1, fun y hy => ?_⟩
      rcases List.mem_cons.mp hy with rfl | hy
      · omega
      · exact h2 y hy
theorem cr_max2 {X : Cx} (hc : X.calm = true) : CallR X (.builtin "max") (fun vs H Q => ∃ a b, vs = [.int a, .int b] ∧ Q (.int (if a < b then b else a)) H) := fun pins s σ H xs us Q I hv h => by
  obtain ⟨a, b, rfl, q⟩ := h
  cases hv with
  | cons r1 hv =>
  cases hv with
  | cons r2 hv =>
  cases hv
  obtain ⟨t, rfl⟩ := r1
  obtain ⟨u, rfl⟩ := r2
  have hd : X.A.handled = none := I.ok.hd hc
  have zT : H s.heap.objs.size = none := I.hok.fresh (Nat.le_refl _)
  obtain ⟨k0, k1, k2, k3, k4, k5⟩ := I.fpOk (Nat.le_refl _) zT
  refine call_max_two (wpAny_pyIter_tuple (items := #[.int a t, .int b u]) ⟨_, Heap.get?_push_size _ rfl, rfl, _, rfl⟩ ?_)
  generalize hh1 : s.heap.push { cls := .type "tuple", data := .seq #[.int a t, .int b u] } = h1
  have e1 : h1.objs.size = s.heap.objs.size + 1 := by rw [← hh1, Heap.size_push]
  refine ⟨h1.objs.size, [h1.objs.size, s.heap.objs.size], [h1.objs.size], 2, _, _, _, rfl, Walks.tuple (A := X.A.in1) hd h1.objs.size s.heap.objs.size (by rw [e1]; exact Nat.ne_of_lt (Nat.lt_succ_self _)) #[.int a t, .int b u], ⟨⟨_, Heap.get?_push_size _ rfl, rfl, rfl⟩, ⟨_, Heap.get?_push_of_some _ (by rw [← hh1]; exact Heap.get?_push_size _ rfl), rfl, _, rfl⟩⟩, fun c hcm => ?_, by decide, CmpOf.ints_gt (fun i => if i = 0 then a else b) fun i v e => ?_, fun v h' tk hp hk => ?_⟩
  · show c < (Heap.push h1 _).objs.size
    rw [Heap.size_push, e1]
    simp only [List.mem_cons, List.not_mem_nil, or_false] at hcm
    rcases hcm with rfl | rfl
    · rw [e1]; exact Nat.lt_succ_self _
    · exact Nat.lt_succ_of_lt (Nat.lt_succ_self _)
  · match i, e with
    | 0, e => simp at e; exact ⟨t, e.symm⟩
    | 1, e => simp at e; exact ⟨u, e.symm⟩
    | n + 2, e => simp at e
  · have J : L2.Inv X pins σ H { heap := h', gens := s.gens, drawn := s.drawn, toks := tk, os := s.os } := by
      refine I.turned (it := s.heap.objs.size) (fun c o hne e => ?_) k0 k1 k3 k4 k5
      refine hk c o (fun hm => ?_) (Heap.get?_push_of_some _ (by rw [← hh1]; exact Heap.get?_push_of_some _ e))
      have z : c = h1.objs.size := by simpa using hm
      have l : c < s.heap.objs.size := Heap.lt_size e
      rw [z, e1] at l
      exact absurd l (Nat.not_lt.mpr (Nat.le_succ _))
    refine ⟨.int (if a < b then b else a), H, J, ?_, q⟩
    · have ab : argBest (fun i j => decide ((if j = 0 then a else b) < (if i = 0 then a else b))) 1 = if a < b then 1 else 0 := by
        simp [argBest]
      have hp' : (#[Value.int a t, .int b u])[argBest (fun i j => decide ((if j = 0 then a else b) < (if i = 0 then a else b))) 1]? = some v := hp
      rw [ab] at hp'
      by_cases c : a < b
      · rw [if_pos c] at hp' ⊢
        simp at hp'; exact ⟨u, hp'.symm⟩
      · rw [if_neg c] at hp' ⊢
        simp at hp'; exact ⟨t, hp'.symm⟩
theorem kMax2 {X : Cx} (hc : X.calm = true := by rfl) : CallR X (.builtin "max") (fun vs H Q => ∃ a b, vs = [.int a, .int b] ∧ Q (.int (if a < b then b else a)) H) := cr_max2 hc
def max2D : List D → Option D
  | [.int i, .int j] => some (.int (if i < j then j else i))
  | _ => none
section
variable {K : PySem.W.Frag}
theorem cd_max2 : ClD K (fun vs H Q => ∃ a b, vs = [.int a, .int b] ∧ Q (.int (if a < b then b else a)) H) max2D := fun G H Q xs d vs g hx e q =>
  match xs, hx, e with
  | [.int i, .int j], .cons (.int _) (.cons (.int _) .nil), e => by cases e; exact ⟨i, j, rfl, q _ G H (Ext.refl g) (.int _)⟩
def minD : List D → Option D
  | [.list ds] => (intsD ds).bind fun ns => match ns with
    | [] => none
    | n :: ns => some (.int (minL n ns))
  | _ => none
theorem cd_min : ClD K (rMin K) minD := fun G H Q xs d vs g hx e q => by
  match xs, hx, e with
  | [.list ds], .cons (.lst h1 h2) .nil, e =>
    obtain ⟨ns, e1, e2⟩ := bind_some (show (intsD ds).bind _ = some d from e)
    match ns, e1, e2 with
    | n :: ns, e1, e2 =>
      cases e2
      refine ⟨_, n :: ns, rfl, by rw [← ints_of h2 e1]; exact .inl (rd_mono g (.inl h1)), by simp, fun m hm hge => ?_⟩
      have : m = minL n ns := by
        obtain ⟨a, b⟩ := minL_le n ns
        have h3 : minL n ns ≤ m := by
          rcases List.mem_cons.mp hm with rfl | hm
          · exact a
          · exact b m hm
        have h4 : m ≤ minL n ns := hge _ (by
          rcases minL_mem n ns with h | h
          · rw [h]; simp
          · simp [h])
        omega
      subst this
      exact q _ G H (Ext.refl g) (.int _)
end
theorem kMin {X : Cx} (K : PySem.W.Frag) (h : X.K = K := by rfl) (hc : X.calm = true := by rfl) : CallR X (.builtin "min") (rMin K) := h ▸ cr_min hc
/-! ### for (a, b), c in .. -/
theorem keyF {i j k : Nat} {env env' : En} {x : D} (h : bTup 2 (bCons (bTup 2 (bCons (bN i) (bCons (bN j) bNil))) (bCons (bN k) bNil)) env x = some env') :
    ∃ a b c, x = .tuple [.tuple [a, b], c] ∧ env' = ((env.set i (.sh a)).set j (.sh b)).set k (.sh c) := by
  match x, h with
  | .tuple [y, c], h =>
    have h' : ((bTup 2 (bCons (bN i) (bCons (bN j) bNil))) env y).bind (fun env' => (bN k env' c).bind fun e => bNil e []) = some env' := h
    obtain ⟨e2, h1, h2⟩ := bind_some h'
    obtain ⟨a, b, rfl, rfl⟩ := key2 h1
    cases h2
    exact ⟨a, b, c, rfl, rfl⟩
  | .tuple [], h => cases h
  | .tuple [a], h => cases h
  | .tuple (a :: b :: c :: r), h => unfold bTup at h; simp at h
section
variable {K : PySem.W.Frag} {wi : TI} {tt : TT} {te : TE} {vs : List Nat} {i j k : Nat} {rI : Option (List D)}
theorem dl_lcF {env : En} {c : D → D → D → Option Bool} {f : D → D → D → Option D} (hi : DI K env wi rI)
    (hc : ∀ x y z, DT K ((((wipeE env vs).set i (.sh x)).set j (.sh y)).set k (.sh z)) tt (c x y z)) (hf : ∀ x y z, DV K ((((wipeE env vs).set i (.sh x)).set j (.sh y)).set k (.sh z)) te (f x y z)) (hts : i ∈ vs ∧ j ∈ vs ∧ k ∈ vs := by decide) :
    DL K env (tLc wi (gTup K 2 (gCons (gTup K 2 (gCons (gName i) (gCons (gName j) gNil))) (gCons (gName k) gNil))) tt te vs) (rI.bind (lcZ (fun x => twoD x (fun y c' => twoD y (fun a b => c a b c') none) none) (fun x => twoD x (fun y c' => twoD y (fun a b => f a b c') none) none))) := by
  refine dl_lc hi (bg_tup (bgs_cons (bg_tup (bgs_cons (bg_name i) (bgs_cons (bg_name j) bgs_nil))) (bgs_cons (bg_name k) bgs_nil))) (by intro n hn; simp at hn; rcases hn with rfl | rfl | rfl; exact hts.1; exact hts.2.1; exact hts.2.2) (fun x env' h => ?_) (fun x env' h => ?_) fun x y h => ?_
  · obtain ⟨a, b, d, rfl, rfl⟩ := keyF h; exact hc a b d
  · obtain ⟨a, b, d, rfl, rfl⟩ := keyF h; exact hf a b d
  · unfold twoD at h
    split at h
    · dsimp only at h
      split at h
      · exact ⟨_, rfl⟩
      · cases h
    · cases h
end
end Dl

set_option Elab.async false
set_option linter.all false
set_option maxRecDepth 100000
set_option maxHeartbeats 2000000
namespace Dl
open PySem PySem.Spec PyProof.Rows L2
/-! ### own sets of ints -/
/-- {e} -/
theorem wp_set1 {P : Program} {w : World} {A : Around} {E : Value → Shared → Prop} {s : Shared} {Q : Value → Shared → Prop} {e : Expr} {pos : Pos} {env : Env} {K : PySem.W.Frag} (X : K.In s.heap) (hc : PySem.W.kdsCode K env.code = true)
    (hp : PySem.W.kdsPlain e = true)
    (h : wpAny (model P w) A (eval e env) (fun v s' => wpAny (model P w) A (setAdd s.heap.objs.size v) (fun _ s2 => Q (.ref s.heap.objs.size) s2) E s') E { s with heap := s.heap.push { cls := .type "set", dict := none, data := .set #[] 0 (.fresh 0 0 (!w.params.followText "set-order")) } }) :
    wpAny (model P w) A (eval (.Set [e] 0 pos) env) Q E s := by
  rw [arm_eval_Set]
  refine wpAny_bind (wpAny_standAt ?_)
  refine wpAny_bind (PySem.W.kds_main X hc fun b => ?_)
  rw [PySem.W.kds_star [e] (by simp [hp]), List.map_map]
  rw [show displayRoad 0 [e] = DisplayRoad.oneByOne from rfl]
  unfold setDisplay
  dsimp only
  rw [if_neg (by decide)]
  refine wpAny_bind (PpSet.newSet_ok ?_)
  refine wpAny_bind (wpAny_holding ?_)
  refine wpAny_bind (wpAny_mono (PySem.W.kds_all pos [e] _ (fun vs s' => PySem.W.KdsFill (model P w) A E false s.heap.objs.size Q vs s') ?_) (fun vs s' h' => ?_) fun _ _ x => x)
  · exact wpAny_mono h (fun v s' h' => wpAny_mono h' (fun _ s2 h2 => PySem.W.kds_fill_nil rfl h2) fun _ _ x => x) fun _ _ x => x
  · refine wpAny_bind (wpAny_holding ?_)
    refine wpAny_bind (wpAny_mono (PySem.W.kds_for (fun x P' s' hx => ?_) vs s' h') (fun _ s1 h1 => ?_) fun _ _ x => x)
    · refine wpAny_bind (wpAny_mono hx (fun _ s2 h2 => ?_) fun _ _ x => x)
      exact wpAny_pure ⟨rfl, h2⟩
    · have h2 : Q (.ref s.heap.objs.size) s1 := by simpa [PySem.W.KdsFill] using h1
      rw [if_neg (by decide)]
      refine wpAny_pure ?_
      exact wpAny_pure (wpAny_pure h2)
theorem plusS_eq {xs : List Int} {k : Int} : (fun j => memS xs j || decide (j = k)) = memS (if k ∈ xs then xs else xs ++ [k]) := memS_add
/-- {e}, the member an int -/
def tSet1 (w : World) (te : TE) : TE := fun σ H Q => ∀ D, H D = none → te σ (upd H D (SetO w D (fun _ => false) 0)) fun y H2 => ∃ k : Int, y = .int k ∧ H2 D = some (SetO w D (fun _ => false) 0) ∧ Q (.ref D) (upd H2 D (SetO w D (memS [k]) 1))
theorem pe_set1 {X : Cx} {e : Expr} {te : TE} {pos : Pos} (he : PE X e te) (hc : PySem.W.kdsCode X.K X.env.code = true) (hp : PySem.W.kdsPlain e = true := by rfl) : PE X (.Set [e] 0 pos) (tSet1 X.w te) := by
  refine ⟨fun pins s σ H Q I h => ?_⟩
  refine wp_set1 I.kIn hc hp ?_
  have free : H s.heap.objs.size = none := I.hok.fresh (Nat.le_refl _)
  have I1 : Inv X pins σ (upd H s.heap.objs.size (SetO X.w s.heap.objs.size (fun _ => false) 0)) { s with heap := s.heap.push { cls := .type "set", dict := none, data := .set #[] 0 (.fresh 0 0 (!X.w.params.followText "set-order")) } } :=
    I.laid (t' := s.toks) (fun b o e => Heap.get?_push_of_some _ e) (Nat.le_refl _) (setO_new (setR_fresh X.w))
  refine thn (he.run pins _ σ _ _ I1 (h _ free)) fun v s2 ⟨y, H2, I2, r, k, ey, hD, q⟩ => ?_
  subst ey
  obtain ⟨tk, rfl⟩ := r
  have R := setO_get I2 hD
  unfold setAdd
  refine wpAny_holding (wpAny_bind ((intKind X.prog X.w).pyHash (k := k) (intKind_is _ _ _ _) ?_))
  refine setR_add_hashed (s := { s2 with toks := s2.toks + 1 }) R (by decide) fun h' sb new => ?_
  have he' : ∃ u, h'.get? s.heap.objs.size = some u := by
    have ⟨o, _, _, _, ho, _⟩ := new
    exact ⟨o, ho⟩
  have ms : (fun j => (fun _ : Int => false) j || decide (j = k)) = memS [k] := funext fun j => by unfold memS; simp
  have new' : SetR X.w h' s.heap.objs.size (memS [k]) 1 := by rw [← ms]; exact new
  exact ⟨.ref s.heap.objs.size, upd H2 s.heap.objs.size (SetO X.w s.heap.objs.size (memS [k]) 1), I2.write (e := s.heap.objs.size) (t' := s2.toks + 1) (by rw [hD]; trivial) (.inl rfl) (fun b u hb hu => (sb.2 b hb).trans hu) he' (setO_new new'), rfl, q⟩
theorem kSet1 {X : Cx} (w : World) {e : Expr} {te : TE} {pos : Pos} (he : PE X e te) (hc : PySem.W.kdsCode X.K X.env.code = true) (h : X.w = w := by rfl) (hp : PySem.W.kdsPlain e = true := by rfl) : PE X (.Set [e] 0 pos) (tSet1 w te) := by
  subst h; exact pe_set1 he hc hp
/-- an own set of ints -/
def Sl.os (w : World) (xs : List Int) : Sl where
  sm := false
  v := fun K G o => xs.Nodup ∧ ∃ a, o = some (.ref a) ∧ G a = some (SetO w a (memS xs) xs.length)
  p := fun K _ G H o S => xs.Nodup ∧ ∃ a, o = some (.ref a) ∧ S = [a] ∧ H a = some (SetO w a (memS xs) xs.length)
  vm := fun g ⟨n, a, e, h⟩ => ⟨n, a, e, g _ _ h⟩
  pm := fun g hs _ ⟨n, a, e, es, hl⟩ => ⟨n, a, e, es, (hs a (by rw [es]; simp)).trans hl⟩
  pv := fun _ g ⟨n, a, e, es, hl⟩ => ⟨n, a, e, hl⟩
  pe := fun h => by cases h
def set1O (re : Option D) : Option (List Int) := re.bind fun d => (asI d).bind fun k => some [k]
section
variable {K : PySem.W.Frag} {M : Md} {env : En} {te : TE} {re : Option D} {α β : Type} {eb : β → En} {w : World}
theorem ds_set1 {i : Nat} (he : DV K (noOw env) te re) : DS K M env (tAsg (tSet1 w te) (gName i)) (fun xs => env.set i (.os w xs)) eb (toO (set1O re)) := fun σ G0 H0 B G H T s q => by
  cases e : set1O re with
  | none => rw [e] at q; exact q.elim
  | some xs =>
    rw [e] at q
    obtain ⟨d, e1, e2⟩ := bind_some e
    obtain ⟨k, e3, e4⟩ := bind_some e2
    have := asI_some e3; subst this
    cases e4
    intro Dd hD
    have gD : G Dd = none := s.ext.gh.free hD
    have E0 : Ext G H G (upd H Dd (SetO w Dd (fun _ => false) 0)) := Ext.own s.ext.gh hD
    refine he σ G _ _ _ s.shd E0.gh e1 fun v G1 H1 E1 h1 => ?_
    cases h1
    have hH : H1 Dd = some (SetO w Dd (fun _ => false) 0) := E1.hh _ _ upd_same
    have gD1 : G1 Dd = none := E1.nwO (setO_ow upd_same) gD
    have E := E0.trans E1
    refine ⟨k, rfl, hH, q _ G1 _ (s.put (H' := upd H1 Dd (SetO w Dd (memS [k]) 1)) ⟨E.gg, fun bq o eq => ?_, fun bq o eq => ?_, ?_⟩ (sl := .os w [k]) (S := [Dd]) i ⟨by simp, Dd, rfl, rfl, upd_same⟩ fun a ha => ?_)⟩
    · rw [upd_ne (ne_of_none eq hD)]; exact E.hh bq o eq
    · rw [upd_ne (ne_of_none eq gD1)]; exact E.gh bq o eq
    · exact E.nw
    · simp at ha; subst ha
      exact ⟨hD, gD1, setO_ow upd_same⟩
theorem SS.os {σ : L2.St} {G0 H0 B G H : Hp} (s : SS K env σ G0 H0 B G H) (i : Nat) (xs : List Int) (h : env[i]? = some (Sl.os w xs)) : xs.Nodup ∧ ∃ a, σ[i]? = some (some (.ref a)) ∧ H a = some (SetO w a (memS xs) xs.length) := by
  obtain ⟨F, f1, _, _⟩ := s.fp
  obtain ⟨o, h1, n, a, rfl, _, h2⟩ := f1 i _ h
  exact ⟨n, a, h1, h2⟩
theorem SS.chgO {σ : L2.St} {G0 H0 B G H : Hp} (s : SS K env σ G0 H0 B G H) {a : Addr} {xs ys : List Int} {i : Nat} (hi : env[i]? = some (Sl.os w xs)) (hv : σ[i]? = some (some (.ref a))) (hn : ys.Nodup) :
    SS K (env.set i (Sl.os w ys)) σ G0 H0 B G (upd H a (SetO w a (memS ys) ys.length)) :=
  s.chgS hi fun o S ho _ ⟨_, l, e, hS, hl⟩ => by
    subst e
    rw [hv] at ho; cases ho
    subst hS
    refine ⟨⟨hn, a, rfl, rfl, upd_same⟩, fun b hb => upd_ne (by simpa using hb), fun b hb => ?_⟩
    simp at hb; subst hb; exact setO_ow upd_same
/-- found.add(e) -/
def sAdd (xs : List Int) (re : Option D) : Option (List Int) := re.bind fun d => (asI d).bind fun k => if xs.length < 64 then some (if k ∈ xs then xs else xs ++ [k]) else none
theorem ds_sadd {i : Nat} {xs : List Int} (hi : env[i]? = some (Sl.os w xs)) (he : DV K env te re) : DS K M env (tDrop (tSAdd w (tVar i) (tCons te tNil))) (fun ys => env.set i (.os w ys)) eb (toO (sAdd xs re)) := fun σ G0 H0 B G H T s q => by
  cases e : sAdd xs re with
  | none => rw [e] at q; exact q.elim
  | some ys =>
    rw [e] at q
    obtain ⟨d, e1, e2⟩ := bind_some e
    obtain ⟨k, e3, e4⟩ := bind_some e2
    have := asI_some e3; subst this
    by_cases hz : xs.length < 64
    · rw [if_pos hz] at e4; cases e4
      obtain ⟨nd, a, h1, ha⟩ := s.os i xs hi
      refine ⟨.ref a, h1, ⟨a, _, _, rfl, ha⟩, ?_⟩
      refine he σ H H _ _ s.all (Same.refl H) e1 fun v G1 H1 E1 hv => ?_
      cases hv
      have s1 := s.grow E1.hh
      obtain ⟨_, a1, h1', ha1⟩ := s1.os i xs hi
      rw [h1] at h1'; cases h1'
      refine ⟨a, k, _, _, rfl, rfl, ha1, room64 hz, ?_⟩
      have e := plusS_eq (xs := xs) (k := k)
      rw [e, memS_len]
      exact q σ G _ (s1.chgO hi h1 (dd_nodup nd))
    · rw [if_neg hz] at e4; cases e4
/-- x in found, x not in found -/
def sIn (neg : Bool) (xs : List Int) : D → Option D
  | .int k => some (.bool (if neg then !decide (k ∈ xs) else decide (k ∈ xs)))
  | _ => none
theorem dv_snotin (i : Nat) {xs : List Int} (he : DV K env te re) (h : env[i]? = some (Sl.os w xs) := by rfl) : DV K env (tOp (rSNotIn w) te (tVar i)) (re.bind (sIn true xs)) := fun σ G H Q d s g e q => by
  obtain ⟨y, ey, e⟩ := bind_some e
  refine he σ G H _ y s g ey fun v G1 H1 E1 hv => ?_
  obtain ⟨o, h1, nd, a, rfl, h2⟩ := (s.mono E1.gg).at' i _ h
  refine ⟨.ref a, h1, ?_⟩
  cases y with
  | int k =>
    cases hv
    cases e
    exact ⟨k, a, memS xs, xs.length, rfl, rfl, E1.gh _ _ h2, q _ G1 H1 E1 (.bl _)⟩
  | _ => cases e
theorem dv_sin (i : Nat) {xs : List Int} (he : DV K env te re) (h : env[i]? = some (Sl.os w xs) := by rfl) : DV K env (tOp (rSIn w) te (tVar i)) (re.bind (sIn false xs)) := fun σ G H Q d s g e q => by
  obtain ⟨y, ey, e⟩ := bind_some e
  refine he σ G H _ y s g ey fun v G1 H1 E1 hv => ?_
  obtain ⟨o, h1, nd, a, rfl, h2⟩ := (s.mono E1.gg).at' i _ h
  refine ⟨.ref a, h1, ?_⟩
  cases y with
  | int k =>
    cases hv
    cases e
    exact ⟨k, a, memS xs, xs.length, rfl, rfl, E1.gh _ _ h2, q _ G1 H1 E1 (.bl _)⟩
  | _ => cases e
/-- return sorted(found) -/
def sSort (xs : List Int) : Option (List D) := if xs.length < 64 then some ((srtI xs).map PyData.int) else none
theorem ds_retSort {en : α → En} {i : Nat} {xs : List Int} (hi : env[i]? = some (Sl.os w xs)) (hM : M.R = RtL K := by rfl) : DS K M env (tRet (tCB (rSortedSet w) (tCons (tVar i) tNil))) en eb (toR (newO (sSort xs)) : Out α β) := fun σ G0 H0 B G H T s q => by
  unfold sSort at q
  by_cases hz : xs.length < 64
  · rw [if_pos hz] at q
    obtain ⟨nd, a, h1, ha⟩ := s.os i xs hi
    refine ⟨.ref a, h1, a, memS xs, xs.length, rfl, ha, hz, fun ns p ha' hm _ hp => ?_⟩
    have ex : ns = srtI xs := asc_one ha' nd fun k => by rw [hm]; unfold memS; exact decide_eq_true_iff
    have E := Ext.own s.ext.gh hp (o := .lst (ns.map V.int))
    refine q (.ref p) G _ (by rw [hM]; exact ⟨s.ext.trans E, p, _, _, rfl, rfl, s.ext.hh.free hp, s.ext.gh.free hp, upd_same, by rw [ex]; exact dpa_ints _⟩)
  · rw [if_neg hz] at q; exact q.elim
end
theorem kSNotIn {X : Cx} (w : World) (h : X.w = w := by rfl) : OpR X (compareOp .NotIn) (rSNotIn w) := by subst h; exact or_snotin
theorem kSIn {X : Cx} (w : World) (h : X.w = w := by rfl) : OpR X (compareOp .In) (rSIn w) := by subst h; exact or_sin
theorem kSAdd {X : Cx} (w : World) {o e : Expr} {es : List Expr} {to : TE} {t : TA} {apos cpos : Pos} (ho : PE X o to) (ha : PA X (e :: es) t) (h : X.w = w := by rfl)
    (hbase : attributeBase o "add" X.env (eval o X.env) = eval o X.env := by rfl)
    (hfew : ((backTo cpos (starEach (e :: es) X.env)).all (fun x => !x.1) && (backToKw cpos (keywordEach [] X.env)).all (fun x => x.1.isSome)
      && decide ((e :: es).length + ([] : List Keyword).length + (if ([] : List Keyword).isEmpty then 0 else 1) < 30)) = true := by rfl)
    (hline : (apos.endLine == cpos.line) = true := by rfl) (hs : starEach (e :: es) X.env = (false, eval e X.env) :: starEach es X.env := by rfl) (hplain : (backTo cpos (starEach es X.env)).any (·.1) = false := by rfl) :
    PE X (.Call (.Attribute o "add" apos) (e :: es) [] cpos) (tSAdd w to t) := by
  subst h; exact pe_sadd ho ha hbase hfew hline hs hplain
/-! defs whose body asks for their code -/
section
variable {P : Program} {w : World} {K : PySem.W.Frag} {mg : Str → Option Value} {base : Heap} {x qual : Str} {st : Stmt} {f : Addr} {fd : FuncData} {N ps : List Str} {k : Nat}
theorem Fun.okC {sp : Sp} (F : Fun K x qual st f fd) (S : FnScope N ps (defScope st)) (len : ∀ vs H Q E, sp vs H Q E → vs.length = ps.length)
    (hbody : ∀ (cdv : Value) (A : Around) (outer : List Env) (s : Shared) (H : Hp) (vs : List V) (Q : VK) (E : XK), PySem.W.kdsCode K cdv = true → Room k (A.deeper (envOfC qual (defScope st) s.heap.objs.size f cdv)) → sp vs H Q E →
      ∃ t, PSs (cxOf CX0 P w K mg base N qual (defScope st) f cdv A outer s H E).nox (defBody st) t ∧ t { nx := fun _ H' => Q .non H', rt := Q } (start N vs) H) : FnOk P w K mg base CX0 (k + 1) f fd ps sp := by
  obtain ⟨oc, od, kV, doc, pm, an, cdv, ct, osl, rfl, lk, hcd⟩ := F.ex
  refine fn_of lk hcd S len fun A outer s H vs Q E hr hsp => ?_
  obtain ⟨t, h, q⟩ := hbody cdv A outer s H vs Q E (kdsCode_of hcd) hr hsp
  exact ⟨t, h.nox, q⟩
theorem dfL_mkC {m : List D → Option D} (F : Fun K x qual st f fd) (S : FnScope N ps (defScope st)) (hm : mg x = some (.ref f)) (hb : Binds K fd ps []) (hl : ∀ ds d, m ds = some d → ds.length = ps.length) (hN : ps.length ≤ N.length)
    (body : ∀ (cdv : Value) (A : Around) (outer : List Env) (s : Shared) (H : Hp) (E : XK), PySem.W.kdsCode K cdv = true → Room k (A.deeper (envOfC qual (defScope st) s.heap.objs.size f cdv)) →
      ∃ t, PSs (cxOf CX0 P w K mg base N qual (defScope st) f cdv A outer s H E).nox (defBody st) t ∧
        ∀ ds d, m ds = some d → ∃ (β : Type) (eb : β → En) (en : Empty → En) (o : Out Empty β), DS K (.no (RtL K)) (env0 N.length ds) t en eb o ∧ o.run = some d) : DfL P w K mg base (k + 1) x ps m := by
  refine ⟨f, fd, hm, F.kp, hb, ?_⟩
  refine Fun.okC F S (fun vs H Q E h => ?_) fun cdv A outer s H vs Q E hc hr h => ?_
  · obtain ⟨G, ds, d, _, ha, e, _⟩ := h
    rw [dpa_len ha]; exact hl ds d e
  · obtain ⟨t, h1, h2⟩ := body cdv A outer s H E hc hr
    exact ⟨t, h1, fn_bodyL h (fun ds d e => by rw [hl ds d e]; exact hN) h2⟩
end
end Dl
namespace Dl
open PySem PySem.Spec PyProof.Rows L2
/-! ### more of results that are all new -/
section
variable {K : PySem.W.Frag} {e eG : En} {ta ti te : TE} {ra ri : Option D}
def intO (r : Option D) : Option D := r.bind fun d => match d with
  | .int i => some (.int i)
  | _ => none
/-- a[e], the list on G, the place an int seen anywhere -/
theorem dvx_ix {o : R2} (ho : OpD K o ixD) (h : DV K eG ta ra) (k : DV K e ti ri) : DVX K e eG (tOp o ta ti) (op2 ixD ra (intO ri)) := fun σ G H Q d s1 s2 g z q => by
  obtain ⟨x, ex, z⟩ := bind_some z
  obtain ⟨y, ey, z⟩ := bind_some z
  obtain ⟨y', ey', ey⟩ := bind_some ey
  match y', ey', ey with
  | .int i, ey', ey =>
    cases ey
    refine h σ G H _ x s2 g ex fun v G1 H1 E1 hv => ?_
    refine k σ H1 H1 _ _ (s1.mono E1.hh) (Same.refl H1) ey' fun w G2 H2 E2 hw => ?_
    cases hw
    have E3 := E1.trans (ext_flat E1.gh E2.hh)
    refine ho _ H2 _ x (.int i) d v _ E3.gh (dp_mono (ext_flat E1.gh E2.hh).gg _ _ hv) (.int i) z fun u G3 H3 E4 hu => ?_
    exact q u G3 H3 (E3.trans E4) hu
end
section
variable {K : PySem.W.Frag} {M : Md} {env : En} {te : TE} {ra : Option D} {β : Type} {eb : β → En}
/-- nothing is known -/
def unE (e : En) : En := e.map fun _ => .un
theorem unE_se {σ : L2.St} {G : Hp} {e : En} {H : Hp} (s : SE K e σ H) : SE K (unE e) σ G := by
  unfold unE
  refine ⟨by rw [List.length_map]; exact s.len, fun i sl h => ?_⟩
  rw [List.getElem?_map] at h
  cases z : e[i]? with
  | none => rw [z] at h; cases h
  | some sl' =>
    rw [z] at h; cases h
    obtain ⟨o, h1, _⟩ := s.at' i sl' z
    exact ⟨o, h1, trivial⟩
/-- x = e, its lists all new -/
theorem ds_setNX {i : Nat} (h : DVX K env (unE env) te ra) : DS K M env (tAsg te (gName i)) (fun d => env.set i (.nu d)) eb (toO ra) := fun σ G0 H0 B G H T s q => by
  cases ra with
  | none => exact q.elim
  | some d =>
    refine h σ (fun _ => none) H _ d s.all (unE_se s.all) (fun _ _ z => by cases z) rfl fun v G' H' E hd => ?_
    obtain ⟨S, hS, hN⟩ := dp_fp d v hd
    have hst : ∀ a, G' a ≠ none → H' a = G' a := fun a ha => by
      cases z : G' a with
      | none => exact absurd z ha
      | some o => exact E.gh _ _ z
    have ln : ∀ {o : Option HO}, Lst o → o ≠ none := fun {o} ⟨xs, e⟩ z => by rw [z] at e; cases e
    have free : ∀ a ∈ S, H a = none := fun a ha => by
      have hl := hS a ha
      cases z : H a with
      | none => rfl
      | some o =>
        rcases E.nw a (by rw [z]; exact Option.some_ne_none _) rfl with h | h
        · exact absurd h (ln hl)
        · obtain ⟨xs, e⟩ := hl
          rw [e] at h
          exact h.elim
    refine q _ G H' (s.put ⟨Same.refl G, E.hh, s.ext.gh.trans E.hh, fun _ _ z => .inl z⟩ (sl := .nu d) (S := S) i ⟨v, rfl, hN.at (fun a ha => hst a (ln (hS a ha))) (fun a ha => hst a (fun z => by rw [z] at ha; exact ha)), fun a ha => by rw [hst a (ln (hS a ha))]; exact hS a ha⟩ fun a ha => ?_)
    have hl := hS a ha
    refine ⟨free a ha, s.ext.gh.free (free a ha), ?_⟩
    rw [hst a (ln hl)]
    exact hl.ow
end
end Dl
namespace L2
theorem Room.units65 {k : Nat} {A : PySem.Around} (r : Room k A) : A.units + 65 < PySem.cLine := by have := r.un; omega
end L2
namespace Dl
open PySem PySem.Spec PyProof.Rows L2
/-! ### x in xs, of data -/
def rInDD (K : PySem.W.Frag) (neg : Bool) : R2 := fun x y H Q => ∃ d ds, L2.Dp K H x d ∧ L2.Dp K H y (.list ds) ∧ SeqAt.shaped d = true ∧ SeqAt.shaped (.list ds) = true ∧ Q (.bl (cond neg (!ds.any fun z => PyData.eqv z d) (ds.any fun z => PyData.eqv z d))) H
theorem kInDD {X : Cx} (K : PySem.W.Frag) (h : X.K = K := by rfl) (hu : X.A.units + 65 < cLine) : OpR X (compareOp .In) (rInDD K false) := by
  subst h; intro pins s σ H x y v u Q I rx ry ⟨d, ds, a, b, c, e, q⟩
  exact op_inD hu pins s σ H x y v u Q I rx ry ⟨d, ds, a, b, c, e, q⟩
theorem kNotInDD {X : Cx} (K : PySem.W.Frag) (h : X.K = K := by rfl) (hu : X.A.units + 65 < cLine) : OpR X (compareOp .NotIn) (rInDD K true) := by
  subst h; intro pins s σ H x y v u Q I rx ry ⟨d, ds, a, b, c, e, q⟩
  exact op_notInD hu pins s σ H x y v u Q I rx ry ⟨d, ds, a, b, c, e, q⟩
def inDD (neg : Bool) (x y : D) : Option D := match y with
  | .list ys => if SeqAt.shaped x = true ∧ SeqAt.shaped (.list ys) = true then some (.bool (cond neg (!ys.any fun z => PyData.eqv z x) (ys.any fun z => PyData.eqv z x))) else none
  | _ => none
theorem od_inDD {K : PySem.W.Frag} (neg : Bool) : OpD K (rInDD K neg) (inDD neg) := fun G H Q x y d v w g hx hy e q => by
  cases y with
  | list ys =>
    replace e : (if SeqAt.shaped x = true ∧ SeqAt.shaped (.list ys) = true then some (PyData.bool (cond neg (!ys.any fun z => PyData.eqv z x) (ys.any fun z => PyData.eqv z x))) else none) = some d := e
    by_cases hz : SeqAt.shaped x = true ∧ SeqAt.shaped (.list ys) = true
    · rw [if_pos hz] at e; cases e
      exact ⟨x, ys, dp_lay x v (dp_mono g x v hx), dp_lay (.list ys) w (dp_mono g (.list ys) w hy), hz.1, hz.2, q _ G H (Ext.refl g) (.bl _)⟩
    · rw [if_neg hz] at e; cases e
  | _ => cases e
end Dl
namespace Dl
open PySem PySem.Spec PyProof.Rows L2
/-! ### x is True -/
def rIsB (neg : Bool) : R2 := fun x y H Q => ∃ a b, x = .bl a ∧ y = .bl b ∧ Q (.bl (if neg then !decide (a = b) else decide (a = b))) H
theorem op_isTF {X : Cx} : OpR X (compareOp .Is) (rIsB false) := by
  intro pins s σ H x y v u Q I rx ry h
  obtain ⟨a, b, rfl, rfl, q⟩ := h
  cases rx; cases ry
  refine wpAny_is_plain (by cases a <;> cases b <;> rfl) ⟨.bl (decide (a = b)), H, I, ?_, q⟩
  cases a <;> cases b <;> rfl
theorem op_notTF {X : Cx} : OpR X (compareOp .IsNot) (rIsB true) := by
  intro pins s σ H x y v u Q I rx ry h
  obtain ⟨a, b, rfl, rfl, q⟩ := h
  cases rx; cases ry
  refine wpAny_isNot_plain (by cases a <;> cases b <;> rfl) ⟨.bl (!decide (a = b)), H, I, ?_, q⟩
  cases a <;> cases b <;> rfl
def isBD (neg : Bool) (x y : D) : Option D := match x, y with
  | .bool a, .bool b => some (.bool (if neg then !decide (a = b) else decide (a = b)))
  | _, _ => none
theorem od_isBl {K : PySem.W.Frag} (neg : Bool) : OpD K (rIsB neg) (isBD neg) := fun G H Q x y d v w g hx hy e q => by
  match x, y, hx, hy, e with
  | .bool a, .bool b, .bl _, .bl _, e => cases e; exact ⟨a, b, rfl, rfl, q _ G H (Ext.refl g) (.bl _)⟩
end Dl

set_option Elab.async false
set_option linter.all false
set_option maxRecDepth 100000
set_option maxHeartbeats 2000000
namespace Dl
open PySem PySem.Spec PyProof.Rows L2
/-! ### rationals -/
theorem q_mul_den (q : Rat) : q * ((q.den : Nat) : Rat) = ((q.num : Int) : Rat) := by
  have h : (q.den : Rat) ≠ 0 := by exact_mod_cast q.den_nz
  have e := Rat.mkRat_self q
  rw [Rat.mkRat_eq_div] at e
  have e2 : ((q.num : Int) : Rat) = q * (((q.den : Nat) : Int) : Rat) := by
    rw [Rat.intCast_natCast]
    conv => rhs; rw [← e]
    grind
  rw [e2, Rat.intCast_natCast]
theorem den_dvd {q : Rat} {M : Nat} {z : Int} (h : q * (M : Rat) = (z : Rat)) : q.den ∣ M := by
  by_cases hM : M = 0
  · subst hM; exact Nat.dvd_zero _
  have hMr : (M : Rat) ≠ 0 := by exact_mod_cast hM
  have e : mkRat z M = q := by
    rw [Rat.mkRat_eq_div]
    rw [← h]
    show q * (M : Rat) / (M : Rat) = q
    grind
  obtain ⟨m, h1, h2, h3⟩ := Rat.mkRat_num_den (n' := q.num) (d' := q.den) (z' := q.den_nz) (c := q.reduced) hM e
  exact ⟨m, h3⟩
theorem of_den {q : Rat} {M : Nat} (h : q.den ∣ M) : ∃ z : Int, q * (M : Rat) = (z : Rat) := by
  obtain ⟨c, rfl⟩ := h
  refine ⟨q.num * c, ?_⟩
  rw [Rat.natCast_mul, ← Rat.mul_assoc, q_mul_den, Rat.intCast_mul, Rat.intCast_natCast]
/-- within 0 and 1, with a denominator that divides M -/
structure In1 (M : Nat) (q : Rat) : Prop where
  lo : 0 ≤ q
  hi : q ≤ 1
  dv : q.den ∣ M
theorem In1.int {M : Nat} {q : Rat} (h : In1 M q) : ∃ z : Int, q * (M : Rat) = (z : Rat) := of_den h.dv
theorem In1.num {M : Nat} {q : Rat} (h : In1 M q) : q.num.natAbs ≤ q.den := by
  have h1 := h.lo
  have h2 := h.hi
  have e := q_mul_den q
  have hd : (0 : Rat) ≤ (q.den : Rat) := by exact_mod_cast Nat.zero_le _
  have a : (0 : Rat) ≤ ((q.num : Int) : Rat) := by rw [← e]; exact Rat.mul_nonneg h1 hd
  have b : ((q.num : Int) : Rat) ≤ ((q.den : Int) : Rat) := by
    rw [← e, Rat.intCast_natCast]
    have := Rat.mul_le_mul_of_nonneg_right h2 hd
    rwa [Rat.one_mul] at this
  have a' : 0 ≤ q.num := by exact_mod_cast a
  have b' : q.num ≤ q.den := Rat.intCast_le_intCast.mp b
  omega
/-- a rational as data -/
def qD (q : Rat) : D := .tuple [.int q.num, .int ((q.den : Nat) : Int)]
theorem qD_inj {a b : Rat} (h : qD a = qD b) : a = b := by
  unfold qD at h
  simp at h
  exact Rat.ext h.1 (by exact_mod_cast h.2)
/-- size -/
def Sz (k : Nat) (q : Rat) : Prop := q.num.natAbs < 2 ^ k ∧ q.den < 2 ^ k
theorem Sz.mono {a b : Nat} {q : Rat} (h : Sz a q) (k : a ≤ b) : Sz b q :=
  ⟨Nat.lt_of_lt_of_le h.1 (Nat.pow_le_pow_right (by omega) k), Nat.lt_of_lt_of_le h.2 (Nat.pow_le_pow_right (by omega) k)⟩
theorem In1.sz {M k : Nat} {q : Rat} (h : In1 M q) (hM : M < 2 ^ k) (h0 : 0 < M) : Sz k q := by
  have h1 := Nat.le_of_dvd h0 h.dv
  have h2 := h.num
  exact ⟨by omega, by omega⟩
theorem norm_eq (n : Int) (d : Nat) (h : d ≠ 0) : ((mkRat n d).num = n / ((n.natAbs.gcd d : Nat) : Int)) ∧ (mkRat n d).den = d / n.natAbs.gcd d := by
  rw [Rat.mkRat_def, dif_neg h, Rat.normalize_eq]
  exact ⟨rfl, rfl⟩
theorem add_mk (a b : Rat) : a + b = mkRat (a.num * b.den + b.num * a.den) (a.den * b.den) := by
  rw [Rat.add_def, Rat.mkRat_def, dif_neg]
theorem mul_mk (a b : Rat) : a * b = mkRat (a.num * b.num) (a.den * b.den) := by
  rw [Rat.mul_def, Rat.mkRat_def, dif_neg]
theorem lt_nums (a b : Rat) : a < b ↔ a.num * b.den < b.num * a.den := Rat.lt_iff a b
theorem mk_div (n : Int) (d : Nat) : mkRat n d = (n : Rat) / (d : Rat) := Rat.mkRat_eq_div n d
theorem eq_mk {q : Rat} {n : Int} {d : Nat} (hd : d ≠ 0) (h : (n : Rat) = q * (d : Rat)) : mkRat n d = q := by
  have hMr : (d : Rat) ≠ 0 := by exact_mod_cast hd
  rw [mk_div, h]
  show q * (d : Rat) / (d : Rat) = q
  grind
/-- sums -/
def sumQ (qs : List Rat) : Rat := qs.foldl (· + ·) 0
theorem foldl_addQ : ∀ (qs : List Rat) (a : Rat), qs.foldl (· + ·) a = a + qs.foldl (· + ·) 0
  | [], a => by rw [List.foldl_nil, List.foldl_nil, Rat.add_zero]
  | q :: qs, a => by
    rw [List.foldl_cons, List.foldl_cons, foldl_addQ qs (a + q), foldl_addQ qs (0 + q)]
    grind
theorem sumQ_nil : sumQ [] = 0 := rfl
theorem sumQ_cons (q : Rat) (qs : List Rat) : sumQ (q :: qs) = q + sumQ qs := by
  unfold sumQ
  rw [List.foldl_cons, foldl_addQ]
  grind
theorem sumQ_app (a b : List Rat) : sumQ (a ++ b) = sumQ a + sumQ b := by
  induction a with
  | nil => rw [List.nil_append, sumQ_nil]; grind
  | cons x xs ih => rw [List.cons_append, sumQ_cons, sumQ_cons, ih]; grind
theorem sumQ_mul (c : Rat) (a : List Rat) : sumQ (a.map (c * ·)) = c * sumQ a := by
  induction a with
  | nil => rw [List.map_nil, sumQ_nil]; grind
  | cons x xs ih => rw [List.map_cons, sumQ_cons, sumQ_cons, ih]; grind
theorem sumQ_nonneg {a : List Rat} (h : ∀ q ∈ a, 0 ≤ q) : 0 ≤ sumQ a := by
  induction a with
  | nil => rw [sumQ_nil]; grind
  | cons x xs ih =>
    rw [sumQ_cons]
    exact Rat.add_nonneg (h x (by simp)) (ih fun q hq => h q (by simp [hq]))
theorem sumQ_le {α : Type} {l : List α} {f g : α → Rat} (h : ∀ x ∈ l, f x ≤ g x) : sumQ (l.map f) ≤ sumQ (l.map g) := by
  induction l with
  | nil => exact Rat.le_refl
  | cons x xs ih =>
    rw [List.map_cons, List.map_cons, sumQ_cons, sumQ_cons]
    have h1 := h x (by simp)
    have h2 := ih fun y hy => h y (by simp [hy])
    grind
theorem sumQ_int (ns : List Int) : sumQ (ns.map fun (n : Int) => (n : Rat)) = ((ns.sum : Int) : Rat) := by
  induction ns with
  | nil => rfl
  | cons x xs ih => rw [List.map_cons, sumQ_cons, ih, List.sum_cons, Rat.intCast_add]
/-- greatest and least -/
def maxQ : Rat → List Rat → Rat
  | m, [] => m
  | m, x :: xs => maxQ (if m < x then x else m) xs
def minQ : Rat → List Rat → Rat
  | m, [] => m
  | m, x :: xs => minQ (if x < m then x else m) xs
theorem maxQ_mem : ∀ (m : Rat) (xs : List Rat), maxQ m xs = m ∨ maxQ m xs ∈ xs
  | m, [] => .inl rfl
  | m, x :: xs => by
    unfold maxQ
    rcases maxQ_mem (if m < x then x else m) xs with h | h
    · rw [h]
      by_cases c : m < x
      · rw [if_pos c]; exact .inr (by simp)
      · rw [if_neg c]; exact .inl rfl
    · exact .inr (by simp [h])
theorem minQ_mem : ∀ (m : Rat) (xs : List Rat), minQ m xs = m ∨ minQ m xs ∈ xs
  | m, [] => .inl rfl
  | m, x :: xs => by
    unfold minQ
    rcases minQ_mem (if x < m then x else m) xs with h | h
    · rw [h]
      by_cases c : x < m
      · rw [if_pos c]; exact .inr (by simp)
      · rw [if_neg c]; exact .inl rfl
    · exact .inr (by simp [h])
theorem maxQ_ge : ∀ (m : Rat) (xs : List Rat), m ≤ maxQ m xs ∧ ∀ y ∈ xs, y ≤ maxQ m xs
  | m, [] => ⟨Rat.le_refl, fun _ h => by cases h⟩
  | m, x :: xs => by
    unfold maxQ
    obtain ⟨h1, h2⟩ := maxQ_ge (if m < x then x else m) xs
    by_cases c : m < x
    · rw [if_pos c] at h1 h2 ⊢
      refine ⟨by grind, fun y hy => ?_⟩
      rcases List.mem_cons.mp hy with rfl | hy
      · exact h1
      · exact h2 y hy
    · rw [if_neg c] at h1 h2 ⊢
      refine ⟨h1, fun y hy => ?_⟩
      rcases List.mem_cons.mp hy with rfl | hy
      · grind
      · exact h2 y hy
theorem minQ_le : ∀ (m : Rat) (xs : List Rat), minQ m xs ≤ m ∧ ∀ y ∈ xs, minQ m xs ≤ y
  | m, [] => ⟨Rat.le_refl, fun _ h => by cases h⟩
  | m, x :: xs => by
    unfold minQ
    obtain ⟨h1, h2⟩ := minQ_le (if x < m then x else m) xs
    by_cases c : x < m
    · rw [if_pos c] at h1 h2 ⊢
      refine ⟨by grind, fun y hy => ?_⟩
      rcases List.mem_cons.mp hy with rfl | hy
      · exact h1
      · exact h2 y hy
    · rw [if_neg c] at h1 h2 ⊢
      refine ⟨h1, fun y hy => ?_⟩
      rcases List.mem_cons.mp hy with rfl | hy
      · grind
      · exact h2 y hy
theorem maxQ_map {c : Rat} (hc : 0 < c) : ∀ (m : Rat) (xs : List Rat), maxQ (c * m) (xs.map (c * ·)) = c * maxQ m xs
  | m, [] => rfl
  | m, x :: xs => by
    rw [List.map_cons]
    unfold maxQ
    have : (c * m < c * x) ↔ m < x := Rat.mul_lt_mul_left hc
    by_cases h : m < x
    · rw [if_pos h, if_pos (this.mpr h), maxQ_map hc]
    · rw [if_neg h, if_neg (fun z => h (this.mp z)), maxQ_map hc]
theorem minQ_map {c : Rat} (hc : 0 < c) : ∀ (m : Rat) (xs : List Rat), minQ (c * m) (xs.map (c * ·)) = c * minQ m xs
  | m, [] => rfl
  | m, x :: xs => by
    rw [List.map_cons]
    unfold minQ
    have : (c * x < c * m) ↔ x < m := Rat.mul_lt_mul_left hc
    by_cases h : x < m
    · rw [if_pos h, if_pos (this.mpr h), minQ_map hc]
    · rw [if_neg h, if_neg (fun z => h (this.mp z)), minQ_map hc]
theorem maxL_Q : ∀ (m : Int) (xs : List Int), ((maxL m xs : Int) : Rat) = maxQ m (xs.map fun (n : Int) => (n : Rat))
  | m, [] => rfl
  | m, x :: xs => by
    rw [List.map_cons]
    unfold maxL maxQ
    by_cases h : m < x
    · rw [if_pos h, if_pos (Rat.intCast_lt_intCast.mpr h), maxL_Q]
    · rw [if_neg h, if_neg (fun z => h (Rat.intCast_lt_intCast.mp z)), maxL_Q]
theorem minL_Q : ∀ (m : Int) (xs : List Int), ((minL m xs : Int) : Rat) = minQ m (xs.map fun (n : Int) => (n : Rat))
  | m, [] => rfl
  | m, x :: xs => by
    rw [List.map_cons]
    unfold minL minQ
    by_cases h : x < m
    · rw [if_pos h, if_pos (Rat.intCast_lt_intCast.mpr h), minL_Q]
    · rw [if_neg h, if_neg (fun z => h (Rat.intCast_lt_intCast.mp z)), minL_Q]
theorem maxQ_mono : ∀ {l : List Nat} {f g : Nat → Rat} {a b : Rat}, a ≤ b → (∀ x ∈ l, f x ≤ g x) → maxQ a (l.map f) ≤ maxQ b (l.map g) := fun {l f g a b} hab h => by
  obtain ⟨h1, h2⟩ := maxQ_ge b (l.map g)
  rcases maxQ_mem a (l.map f) with e | e
  · rw [e]; exact Rat.le_trans hab h1
  · obtain ⟨x, hx, e2⟩ := List.mem_map.mp e
    rw [← e2]
    exact Rat.le_trans (h x hx) (h2 _ (List.mem_map.mpr ⟨x, hx, rfl⟩))
theorem minQ_mono : ∀ {l : List Nat} {f g : Nat → Rat} {a b : Rat}, a ≤ b → (∀ x ∈ l, f x ≤ g x) → minQ a (l.map f) ≤ minQ b (l.map g) := fun {l f g a b} hab h => by
  obtain ⟨h1, h2⟩ := minQ_le a (l.map f)
  rcases minQ_mem b (l.map g) with e | e
  · rw [e]; exact Rat.le_trans h1 hab
  · obtain ⟨x, hx, e2⟩ := List.mem_map.mp e
    rw [← e2]
    exact Rat.le_trans (h2 _ (List.mem_map.mpr ⟨x, hx, rfl⟩)) (h x hx)
theorem sumQ_le1 {α : Type} {f : α → Rat} {a b : List α} (h : ∀ x ∈ a ++ b, 0 ≤ f x) : sumQ (a.map f) ≤ sumQ ((a ++ b).map f) := by
  rw [List.map_append, sumQ_app]
  have := sumQ_nonneg (a := b.map f) fun q hq => by
    obtain ⟨x, hx, rfl⟩ := List.mem_map.mp hq
    exact h x (by simp [hx])
  grind
end Dl

set_option Elab.async false
set_option linter.all false
set_option maxRecDepth 100000
set_option maxHeartbeats 2000000
namespace Dl
open PySem PySem.Spec PyProof.Rows L2
/-! ### equality of rationals as data -/
theorem eqs_qD (q : Rat) : Eqs 1 (qD q) := eqs_tup fun d hd => by
  simp at hd
  rcases hd with rfl | rfl
  · exact eqs_int
  · exact eqs_int
theorem eqv_qD (a b : Rat) : PyData.eqv (qD a) (qD b) = decide (a = b) := by
  have h : PyData.eqv (qD a) (qD b) = (a.num == b.num && ((a.den : Int) == (b.den : Int) && true)) := by
    unfold qD
    simp only [PyData.eqv, PyData.eqvAll]
  rw [h, Bool.and_true]
  by_cases c : a = b
  · subst c
    rw [decide_eq_true rfl]; simp
  · rw [decide_eq_false c]
    by_cases d : a.num = b.num
    · have e : ¬ a.den = b.den := fun z => c (Rat.ext d z)
      have e' : ¬ ((a.den : Int) = (b.den : Int)) := fun z => e (by exact_mod_cast z)
      rw [beq_eq_false_iff_ne.mpr e', Bool.and_false]
    · rw [beq_eq_false_iff_ne.mpr d, Bool.false_and]
theorem eqX_qD (a b : Rat) : eqX (qD a) (qD b) = some (.bool (decide (a = b))) := by
  show eqD (qD a) (qD b) = _
  unfold eqD
  rw [if_pos ⟨((eqs_qD a).mono (by omega)).shaped, ((eqs_qD b).mono (by omega)).shaped⟩, eqv_qD]
theorem neX_qD (a b : Rat) : neX (qD a) (qD b) = some (.bool (!decide (a = b))) := by
  show neD (qD a) (qD b) = _
  unfold neD
  rw [if_pos ⟨((eqs_qD a).mono (by omega)).shaped, ((eqs_qD b).mono (by omega)).shaped⟩, eqv_qD]
theorem eqs_qL (qs : List Rat) : Eqs 2 (.list (qs.map qD)) := eqs_list fun d hd => by
  obtain ⟨q, _, rfl⟩ := List.mem_map.mp hd
  exact eqs_qD q
end Dl

set_option Elab.async false
set_option linter.all false
set_option maxRecDepth 100000
set_option maxHeartbeats 2000000
namespace Dl
open PySem PySem.Spec PyProof.Rows L2
/-! ### one step ahead, as rationals -/
def qc (c : Nat × Nat) : Rat := (c.1 : Rat) / (c.2 : Rat)
def aheadQ (v : Nat → Rat) : Pl → Rat
  | .draw _ bs => sumQ (bs.map fun b => qc b.1 * v b.2)
  | .side _ _ [] => 0
  | .side _ true (t :: ts) => maxQ (v t) (ts.map v)
  | .side _ false (t :: ts) => minQ (v t) (ts.map v)
/-- the chances of a draw are numbers from 0 on with the sum 1 -/
def SumOk (p : Pl) : Prop := ∀ m bs, p = .draw m bs → sumQ (bs.map fun b => qc b.1) = 1
theorem qc_nonneg (c : Nat × Nat) : 0 ≤ qc c := by
  unfold qc
  have h1 : (0 : Rat) ≤ (c.1 : Rat) := by exact_mod_cast Nat.zero_le _
  have h2 : (0 : Rat) ≤ (c.2 : Rat) := by exact_mod_cast Nat.zero_le _
  rw [Rat.div_def]
  refine Rat.mul_nonneg h1 ?_
  rcases Rat.le_iff_lt_or_eq.mp h2 with h | h
  · exact Rat.le_of_lt (Rat.inv_pos.mpr h)
  · rw [← h, Rat.inv_zero]; exact Rat.le_refl
theorem ahead_mono {p : Pl} {f g : Nat → Rat} (h : ∀ x ∈ p.tg, f x ≤ g x) : aheadQ f p ≤ aheadQ g p := by
  cases p with
  | draw m bs =>
    exact sumQ_le fun b hb => Rat.mul_le_mul_of_nonneg_left (h b.2 (List.mem_map.mpr ⟨b, hb, rfl⟩)) (qc_nonneg _)
  | side m o ts =>
    cases ts with
    | nil => exact Rat.le_refl
    | cons t ts =>
      have ht := h t (by simp [Pl.tg])
      have hts : ∀ x ∈ ts, f x ≤ g x := fun x hx => h x (by simp [Pl.tg, hx])
      cases o
      · exact minQ_mono ht hts
      · exact maxQ_mono ht hts
theorem ahead_const {p : Pl} (hs : SumOk p) (hn : p.tg ≠ []) (c : Rat) : aheadQ (fun _ => c) p = c := by
  cases p with
  | draw m bs =>
    have := hs m bs rfl
    show sumQ (bs.map fun b => qc b.1 * c) = c
    have e : (bs.map fun b => qc b.1 * c) = (bs.map fun b => qc b.1).map (c * ·) := by
      rw [List.map_map]
      exact List.map_congr_left fun b _ => Rat.mul_comm _ _
    rw [e, sumQ_mul, this, Rat.mul_one]
  | side m o ts =>
    cases ts with
    | nil => exact absurd rfl hn
    | cons t ts =>
      cases o
      · rcases minQ_mem c (ts.map fun _ => c) with h | h
        · exact h
        · obtain ⟨_, _, e⟩ := List.mem_map.mp h
          exact e.symm
      · rcases maxQ_mem c (ts.map fun _ => c) with h | h
        · exact h
        · obtain ⟨_, _, e⟩ := List.mem_map.mp h
          exact e.symm
theorem ahead_congr {p : Pl} {f g : Nat → Rat} (h : ∀ x ∈ p.tg, f x = g x) : aheadQ f p = aheadQ g p :=
  Rat.le_antisymm (ahead_mono fun x hx => by rw [h x hx]; exact Rat.le_refl) (ahead_mono fun x hx => by rw [h x hx]; exact Rat.le_refl)
theorem ahead_01 {p : Pl} (hs : SumOk p) (hn : p.tg ≠ []) {v : Nat → Rat} (h : ∀ x ∈ p.tg, 0 ≤ v x ∧ v x ≤ 1) : 0 ≤ aheadQ v p ∧ aheadQ v p ≤ 1 := by
  have a := ahead_mono (f := fun _ => 0) (g := v) fun x hx => (h x hx).1
  have b := ahead_mono (f := v) (g := fun _ => 1) fun x hx => (h x hx).2
  rw [ahead_const hs hn] at a b
  exact ⟨a, b⟩
/-! in whole numbers -/
def stepZ (C : Nat) (w : Nat → Int) : Pl → Int
  | .draw _ bs => (bs.map fun b => ((b.1.1 * (C / b.1.2) : Nat) : Int) * w b.2).sum
  | .side _ _ [] => 0
  | .side _ true (t :: ts) => (C : Int) * maxL (w t) (ts.map w)
  | .side _ false (t :: ts) => (C : Int) * minL (w t) (ts.map w)
/-- the chances are divided by what divides C -/
def DenOk (C : Nat) (p : Pl) : Prop := ∀ m bs, p = .draw m bs → ∀ b ∈ bs, 0 < b.1.2 ∧ b.1.2 ∣ C
theorem weight_q {c : Nat × Nat} {C : Nat} (h0 : 0 < c.2) (hd : c.2 ∣ C) : ((c.1 * (C / c.2) : Nat) : Rat) = qc c * (C : Rat) := by
  obtain ⟨k, rfl⟩ := hd
  rw [Nat.mul_div_cancel_left _ h0]
  unfold qc
  have h : (c.2 : Rat) ≠ 0 := by
    have : c.2 ≠ 0 := by omega
    exact_mod_cast this
  rw [Rat.natCast_mul, Rat.natCast_mul]
  grind
theorem step_q {C : Nat} {p : Pl} (hd : DenOk C p) (hC : 0 < C) {W : Rat} (hW : 0 < W) {w : Nat → Int} {v : Nat → Rat} (h : ∀ x ∈ p.tg, ((w x : Int) : Rat) = W * v x) : ((stepZ C w p : Int) : Rat) = (C : Rat) * W * aheadQ v p := by
  have hC' : (0 : Rat) < (C : Rat) := by exact_mod_cast hC
  cases p with
  | draw m bs =>
    show (((bs.map fun b => ((b.1.1 * (C / b.1.2) : Nat) : Int) * w b.2).sum : Int) : Rat) = (C : Rat) * W * sumQ (bs.map fun b => qc b.1 * v b.2)
    rw [← sumQ_int, ← sumQ_mul, List.map_map, List.map_map]
    refine congrArg sumQ (List.map_congr_left fun b hb => ?_)
    obtain ⟨h0, h1⟩ := hd m bs rfl b hb
    show (((((b.1.1 * (C / b.1.2) : Nat) : Int) * w b.2 : Int)) : Rat) = (C : Rat) * W * (qc b.1 * v b.2)
    rw [Rat.intCast_mul, Rat.intCast_natCast, weight_q h0 h1, h b.2 (List.mem_map.mpr ⟨b, hb, rfl⟩)]
    grind
  | side m o ts =>
    cases ts with
    | nil =>
      cases o <;> (show ((0 : Int) : Rat) = _ * (0 : Rat); rw [Rat.mul_zero]; rfl)
    | cons t ts =>
      have ht := h t (by simp [Pl.tg])
      have hts : (ts.map w).map (fun (n : Int) => (n : Rat)) = (ts.map v).map (W * ·) := by
        rw [List.map_map, List.map_map]
        exact List.map_congr_left fun x hx => h x (by simp [Pl.tg, hx])
      cases o
      · show (((C : Int) * minL (w t) (ts.map w) : Int) : Rat) = (C : Rat) * W * minQ (v t) (ts.map v)
        rw [Rat.intCast_mul, Rat.intCast_natCast, minL_Q, hts, ht, minQ_map hW, Rat.mul_assoc]
      · show (((C : Int) * maxL (w t) (ts.map w) : Int) : Rat) = (C : Rat) * W * maxQ (v t) (ts.map v)
        rw [Rat.intCast_mul, Rat.intCast_natCast, maxL_Q, hts, ht, maxQ_map hW, Rat.mul_assoc]
/-- the common multiple -/
def comP (c : Nat) : Pl → Nat
  | .draw _ bs => bs.foldl (fun c b => Nat.lcm c b.1.2) c
  | .side _ _ _ => c
def comQ (g : List Pl) : Nat := g.foldl comP 1
theorem lcm_foldl : ∀ (bs : List ((Nat × Nat) × Nat)) (c : Nat), c ∣ bs.foldl (fun c b => Nat.lcm c b.1.2) c ∧ ∀ b ∈ bs, b.1.2 ∣ bs.foldl (fun c b => Nat.lcm c b.1.2) c
  | [], c => ⟨Nat.dvd_refl _, fun _ h => by cases h⟩
  | b :: bs, c => by
    rw [List.foldl_cons]
    obtain ⟨h1, h2⟩ := lcm_foldl bs (Nat.lcm c b.1.2)
    refine ⟨Nat.dvd_trans (Nat.dvd_lcm_left _ _) h1, fun d hd => ?_⟩
    rcases List.mem_cons.mp hd with rfl | hd
    · exact Nat.dvd_trans (Nat.dvd_lcm_right _ _) h1
    · exact h2 d hd
theorem lcm_foldl_dvd : ∀ (bs : List ((Nat × Nat) × Nat)) (c L : Nat), c ∣ L → (∀ b ∈ bs, b.1.2 ∣ L) → bs.foldl (fun c b => Nat.lcm c b.1.2) c ∣ L
  | [], c, L, h, _ => h
  | b :: bs, c, L, h, hb => by
    rw [List.foldl_cons]
    exact lcm_foldl_dvd bs _ L (Nat.lcm_dvd h (hb b (by simp))) fun d hd => hb d (by simp [hd])
def DvdP (L : Nat) (p : Pl) : Prop := ∀ m bs, p = .draw m bs → ∀ b ∈ bs, b.1.2 ∣ L
theorem comP_dvd {c L : Nat} {p : Pl} (h : c ∣ L) (hp : DvdP L p) : comP c p ∣ L := by
  cases p with
  | draw m bs => exact lcm_foldl_dvd bs c L h (hp m bs rfl)
  | side m o ts => exact h
theorem comP_up (c : Nat) (p : Pl) : c ∣ comP c p := by
  cases p with
  | draw m bs => exact (lcm_foldl bs c).1
  | side m o ts => exact Nat.dvd_refl _
theorem com_foldl : ∀ (g : List Pl) (c : Nat), c ∣ g.foldl comP c ∧ ∀ p ∈ g, DvdP (g.foldl comP c) p
  | [], c => ⟨Nat.dvd_refl _, fun _ h => by cases h⟩
  | q :: g, c => by
    rw [List.foldl_cons]
    obtain ⟨h1, h2⟩ := com_foldl g (comP c q)
    refine ⟨Nat.dvd_trans (comP_up c q) h1, fun p hp => ?_⟩
    rcases List.mem_cons.mp hp with rfl | hp
    · intro m bs e b hb
      subst e
      exact Nat.dvd_trans ((lcm_foldl bs c).2 b hb) h1
    · exact h2 p hp
theorem com_dvd : ∀ (g : List Pl) (c L : Nat), c ∣ L → (∀ p ∈ g, DvdP L p) → g.foldl comP c ∣ L
  | [], c, L, h, _ => h
  | q :: g, c, L, h, hp => by
    rw [List.foldl_cons]
    exact com_dvd g _ L (comP_dvd h (hp q (by simp))) fun p hp' => hp p (by simp [hp'])
def L30 : Nat := 2329089562800
theorem dvd_30 {d : Nat} (h : 1 ≤ d ∧ d ≤ 30) : d ∣ L30 := by
  have : ∀ d : Nat, d < 31 → (d = 0 ∨ L30 % d = 0) := by decide
  rcases this d (by omega) with e | e
  · omega
  · exact Nat.dvd_of_mod_eq_zero e
/-! partial sums of a draw -/
section
variable {C M : Nat} {bs : List ((Nat × Nat) × Nat)} {v : Nat → Rat}
theorem parts_in (hb : ∀ b ∈ bs, 0 < b.1.2 ∧ b.1.2 ∣ C) (hq : ∀ b ∈ bs, In1 M (v b.2)) (hs : sumQ (bs.map fun b => qc b.1 * v b.2) ≤ 1) : ∀ a c : List ((Nat × Nat) × Nat), a ++ c = bs → In1 (C * M) (sumQ (a.map fun b => qc b.1 * v b.2)) := fun a c e => by
  have hpos : ∀ x ∈ bs, 0 ≤ qc x.1 * v x.2 := fun x hx => Rat.mul_nonneg (qc_nonneg _) (hq x hx).lo
  refine ⟨sumQ_nonneg fun q hq => ?_, ?_, ?_⟩
  · obtain ⟨x, hx, rfl⟩ := List.mem_map.mp hq
    exact hpos x (by rw [← e]; simp [hx])
  · refine Rat.le_trans (sumQ_le1 (b := c) fun x hx => hpos x (by rw [← e]; exact hx)) ?_
    rw [e]; exact hs
  · suffices h : ∃ z : Int, sumQ (a.map fun b => qc b.1 * v b.2) * ((C * M : Nat) : Rat) = (z : Rat) by
      obtain ⟨z, hz⟩ := h
      exact den_dvd hz
    have ha : ∀ x ∈ a, x ∈ bs := fun x hx => by rw [← e]; simp [hx]
    clear e
    induction a with
    | nil => exact ⟨0, by rw [List.map_nil, sumQ_nil, Rat.zero_mul]; rfl⟩
    | cons x xs ih =>
      obtain ⟨z, hz⟩ := ih fun y hy => ha y (by simp [hy])
      obtain ⟨x2, x3⟩ := hb x (ha x (by simp))
      obtain ⟨u, hu⟩ := (hq x (ha x (by simp))).int
      have hw := weight_q (c := x.1) x2 x3
      rw [List.map_cons, sumQ_cons, Rat.add_mul, hz, Rat.natCast_mul]
      refine ⟨((x.1.1 * (C / x.1.2) : Nat) : Int) * u + z, ?_⟩
      rw [Rat.intCast_add, Rat.intCast_mul, Rat.intCast_natCast, hw, ← hu]
      grind
theorem prod_in (hb : ∀ b ∈ bs, 0 < b.1.2 ∧ b.1.2 ∣ C) (hq : ∀ b ∈ bs, In1 M (v b.2)) (hs : sumQ (bs.map fun b => qc b.1 * v b.2) ≤ 1) {b : (Nat × Nat) × Nat} (h : b ∈ bs) : In1 (C * M) (qc b.1 * v b.2) := by
  obtain ⟨pre, post, e⟩ := List.append_of_mem h
  have h0 : 0 ≤ qc b.1 * v b.2 := Rat.mul_nonneg (qc_nonneg _) (hq b h).lo
  have h1 : qc b.1 * v b.2 ≤ 1 := by
    have a1 := parts_in hb hq hs (pre ++ [b]) post (by rw [e, List.append_assoc]; rfl)
    have a0 := parts_in hb hq hs pre (b :: post) e.symm
    have a2 := a1.hi
    rw [List.map_append, sumQ_app, List.map_cons, List.map_nil, sumQ_cons, sumQ_nil] at a2
    have a3 := a0.lo
    grind
  obtain ⟨u, hu⟩ := (hq b h).int
  have hw := weight_q (c := b.1) (hb b h).1 (hb b h).2
  exact ⟨h0, h1, den_dvd (z := ((b.1.1 * (C / b.1.2) : Nat) : Int) * u) (by
    rw [Rat.natCast_mul, Rat.intCast_mul, Rat.intCast_natCast, hw, ← hu]
    grind)⟩
end
/-! naturals as data -/
theorem addN {a b : Nat} : addD (nD a) (nD b) = some (nD (a + b)) := rfl
theorem modN {a b : Nat} (h : 0 < b) : modD (nD a) (nD b) = some (nD (a % b)) := by rw [mod_ok (by omega)]; rfl
theorem fdivN {a b : Nat} (h : 0 < b) (h2 : b < 1073741824) : fdivD (nD a) (nD b) = some (nD (a / b)) := by rw [fdiv_ok ⟨by omega, by omega⟩]; rfl
theorem mulN {a b : Nat} (h : b < 1000000) : mulX (nD a) (nD b) = some (nD (a * b)) := by
  rw [mul_ok (smallI_of ⟨by omega, by omega⟩), ← Int.natCast_mul]
theorem subN {a b : Nat} (h : b ≤ a) : subD (nD a) (nD b) = some (nD (a - b)) := by
  show some (PyData.int ((a : Int) - (b : Int))) = _
  exact congrArg (fun i => some (PyData.int i)) (by omega)
theorem ixN' {xs : List Nat} {x : Nat} (h : x < xs.length) : ixD (.list (nL xs)) (nD x) = some (nD (xs.getD x 0)) := by
  rw [ix_map (enc := nD) h, List.getD_eq_getElem?_getD, List.getElem?_eq_getElem h]; rfl
end Dl

set_option Elab.async false
set_option linter.all false
set_option maxRecDepth 100000
set_option maxHeartbeats 2000000
namespace Dl
open PySem PySem.Spec PyProof.Rows L2
theorem sum_lo : ∀ {ns : List Nat} {x : Nat}, (∀ v ∈ ns, 1 ≤ v ∧ v ≤ x) → ns.length ≤ ns.sum ∧ ns.sum ≤ x * ns.length
  | [], _, _ => ⟨Nat.le_refl _, Nat.zero_le _⟩
  | n :: ns, x, h => by
    have a := sum_lo (ns := ns) fun i hi => h i (by simp [hi])
    have b := h n (by simp)
    rw [List.sum_cons, List.length_cons, Nat.mul_succ]
    omega
theorem mem_le_sum : ∀ {ns : List Nat} {v : Nat}, v ∈ ns → v ≤ ns.sum
  | n :: ns, v, h => by
    rw [List.sum_cons]
    rcases List.mem_cons.mp h with rfl | h
    · omega
    · have := mem_le_sum h; omega
/-- one place of the law's game -/
theorem range_getD2 {α β : Type} (F : α → β) (d : α) : ∀ l : List α, (List.range l.length).map (fun k => F (l.getD k d)) = l.map F
  | [] => rfl
  | a :: l => by
    rw [List.length_cons, List.range_succ_eq_map, List.map_cons, List.map_cons, List.map_map]
    refine congrArg (F a :: ·) ?_
    exact (List.map_congr_left fun k _ => rfl).trans (range_getD2 F d l)
/-- the chances of a draw are weights over their sum -/
def Wts (p : Pl) : Prop := ∀ m bs, p = .draw m bs → ∃ ns : List Nat, (∀ v ∈ ns, 1 ≤ v ∧ v ≤ 5) ∧ ns.length ≤ 6 ∧ 1 ≤ ns.length ∧ bs.map (·.1) = ns.map fun w => (w / Nat.gcd w ns.sum, ns.sum / Nat.gcd w ns.sum)
/-- what the size of a place's list is -/
def LiOk (p : Pl) : Prop := p.tg.length ≤ 1000 ∧ ∀ m bs, p = .draw m bs → ∀ b ∈ bs, b.1.1 < 1000 ∧ 0 < b.1.2 ∧ b.1.2 < 1000
theorem getDm {α : Type} {d : α} {ws : List α} {k : Nat} (h : k < ws.length) : ws.getD k d ∈ ws := by
  rw [List.getD_eq_getElem?_getD, List.getElem?_eq_getElem h]; exact List.getElem_mem h
/-! ### weights: the chances of a game as rationals -/
theorem q_low {w S : Nat} (hS : 0 < S) : qc (w / Nat.gcd w S, S / Nat.gcd w S) = (w : Rat) / (S : Rat) := by
  have hg : 0 < Nat.gcd w S := Nat.gcd_pos_of_pos_right _ hS
  have h1 := Nat.div_mul_cancel (Nat.gcd_dvd_left w S)
  have h2 := Nat.div_mul_cancel (Nat.gcd_dvd_right w S)
  unfold qc
  dsimp only
  have hg' : ((Nat.gcd w S : Nat) : Rat) ≠ 0 := by
    have : Nat.gcd w S ≠ 0 := by omega
    exact_mod_cast this
  have hs' : ((S / Nat.gcd w S : Nat) : Rat) ≠ 0 := by
    have : S / Nat.gcd w S ≠ 0 := by
      have := Nat.div_pos (Nat.gcd_le_right w hS) hg
      omega
    exact_mod_cast this
  conv => rhs; rw [← h1, ← h2]
  rw [Rat.natCast_mul, Rat.natCast_mul]
  grind
theorem sum_div (S : Rat) : ∀ ns : List Nat, sumQ (ns.map fun (w : Nat) => (w : Rat) / S) = ((ns.sum : Nat) : Rat) / S
  | [] => by
    rw [List.map_nil, sumQ_nil, List.sum_nil, Rat.div_def]
    show (0 : Rat) = 0 * _
    rw [Rat.zero_mul]
  | n :: ns => by
    rw [List.map_cons, sumQ_cons, sum_div S ns, List.sum_cons, Rat.natCast_add, Rat.div_def, Rat.div_def, Rat.div_def, Rat.add_mul]
theorem wts_facts {p : Pl} (h : Wts p) : SumOk p ∧ DvdP L30 p := by
  have key : ∀ m bs, p = .draw m bs → sumQ (bs.map fun b => qc b.1) = 1 ∧ ∀ b ∈ bs, b.1.2 ∣ L30 := fun m bs e => by
    obtain ⟨ns, h1, h2, h3, h4⟩ := h m bs e
    obtain ⟨s1, s2⟩ := sum_lo h1
    have hS : 0 < ns.sum := by omega
    have hS' : ((ns.sum : Nat) : Rat) ≠ 0 := by
      have : ns.sum ≠ 0 := by omega
      exact_mod_cast this
    refine ⟨?_, fun b hb => ?_⟩
    · have : (bs.map fun b => qc b.1) = ns.map fun (w : Nat) => (w : Rat) / ((ns.sum : Nat) : Rat) := by
        rw [show (bs.map fun b => qc b.1) = (bs.map (·.1)).map qc by rw [List.map_map]; rfl, h4, List.map_map]
        exact List.map_congr_left fun w _ => q_low hS
      rw [this, sum_div]
      grind
    · have hm : b.1 ∈ bs.map (·.1) := List.mem_map.mpr ⟨b, hb, rfl⟩
      rw [h4] at hm
      obtain ⟨w, hw, e⟩ := List.mem_map.mp hm
      rw [← e]
      dsimp only
      have hg : 0 < Nat.gcd w ns.sum := Nat.gcd_pos_of_pos_right _ hS
      have a := Nat.div_pos (Nat.gcd_le_right w hS) hg
      have b := Nat.div_le_self ns.sum (Nat.gcd w ns.sum)
      exact dvd_30 ⟨a, by omega⟩
  exact ⟨fun m bs e => (key m bs e).1, fun m bs e => (key m bs e).2⟩
/-- the chances of a place: in lowest terms -/
def LowP (p : Pl) : Prop := ∀ m bs, p = .draw m bs → ∀ b ∈ bs, Nat.gcd b.1.1 b.1.2 = 1
structure GQ (g : List Pl) : Prop where
  ne : 1 ≤ g.length
  le : g.length ≤ 24
  li : ∀ p ∈ g, LiOk p ∧ p.tg ≠ [] ∧ ∀ t ∈ p.tg, t < g.length
  sm : ∀ p ∈ g, SumOk p
  dv : ∀ p ∈ g, DvdP L30 p
  lw : ∀ p ∈ g, LowP p
theorem gq_of {most top : Nat} {g : List Pl} (h : GmOk most top g) (hm : most ≤ 24) (hw : ∀ p ∈ g, Wts p) : GQ g where
  ne := h.ne
  le := Nat.le_trans h.le hm
  li p hp := by
    have k := h.pl p hp
    refine ⟨⟨by have := k.le; omega, fun m bs e b hb => ?_⟩, fun e => ?_, k.tg⟩
    · obtain ⟨a1, a2, a3, _⟩ := k.ch m bs e b hb
      exact ⟨by omega, by omega, by omega⟩
    · have := k.ne
      rw [e] at this
      exact absurd this (by decide)
  sm p hp := (wts_facts (hw p hp)).1
  dv p hp := (wts_facts (hw p hp)).2
  lw p hp m bs e b hb := ((h.pl p hp).ch m bs e b hb).2.2.2
theorem com_pos {g : List Pl} (h : ∀ p ∈ g, DvdP L30 p) : comQ g ∣ L30 ∧ 0 < comQ g ∧ comQ g < 2 ^ 42 := by
  have a := com_dvd g 1 L30 (Nat.one_dvd _) h
  have b := Nat.le_of_dvd (by decide) a
  refine ⟨a, Nat.pos_of_ne_zero fun z => ?_, by unfold L30 at b; unfold comQ; omega⟩
  unfold comQ at z
  rw [z] at a
  exact absurd (Nat.eq_zero_of_zero_dvd a) (by decide)
theorem com_den {g : List Pl} (h : ∀ p ∈ g, LiOk p) {p : Pl} (hp : p ∈ g) : DenOk (comQ g) p := fun m bs e b hb =>
  ⟨((h p hp).2 m bs e b hb).2.1, (com_foldl g 1).2 p hp m bs e b hb⟩
def plAt (g : List Pl) (k : Nat) : Pl := g.getD k (.side 0 true [])
theorem plAt_mem {g : List Pl} {k : Nat} (h : k < g.length) : plAt g k ∈ g := getDm h
theorem plAt_get {g : List Pl} {k : Nat} (h : k < g.length) : plAt g k = g[k] := by
  unfold plAt
  rw [List.getD_eq_getElem?_getD, List.getElem?_eq_getElem h]; rfl
/-! lists over the places -/
theorem getD_range {α : Type} {f : Nat → α} {n k : Nat} {d : α} (h : k < n) : ((List.range n).map f).getD k d = f k := by
  rw [List.getD_eq_getElem?_getD, List.getElem?_map, List.getElem?_range h]; rfl
theorem getD_map {α β : Type} {f : α → β} {l : List α} {k : Nat} {d : α} {e : β} (h : k < l.length) : (l.map f).getD k e = f (l.getD k d) := by
  rw [List.getD_eq_getElem?_getD, List.getD_eq_getElem?_getD, List.getElem?_map, List.getElem?_eq_getElem h]; rfl
theorem map_range {α β : Type} (f : α → β) (d : α) (l : List α) : l.map f = (List.range l.length).map fun k => f (l.getD k d) := (range_getD2 f d l).symm
/-- a loop that counts -/
theorem forO_count {τ β : Type} {body : τ → D → Out τ τ} {es : Nat → τ} : ∀ (xs : List D) (s : Nat), (∀ i < xs.length, ∀ x, body (es (s + i)) x = .nx (es (s + i + 1))) → (forO body xs (es s) : Out τ β) = .nx (es (s + xs.length))
  | [], s, _ => rfl
  | x :: xs, s, h => by
    unfold forO
    have h0 : body (es s) x = .nx (es (s + 1)) := h 0 (by simp) x
    rw [h0]
    have := forO_count (body := body) (es := es) (β := β) xs (s + 1) fun i hi y => by
      have := h (i + 1) (by simp; omega) y
      rwa [show s + (i + 1) = s + 1 + i by omega] at this
    dsimp only
    rw [this, show s + 1 + xs.length = s + (x :: xs).length by simp; omega]
end Dl

set_option Elab.async false
set_option linter.all false
set_option maxRecDepth 100000
set_option maxHeartbeats 2000000
namespace Dl
open PySem PySem.Spec PyProof.Rows L2
/-! ### places that are reached -/
inductive Rt (g : List Pl) (p : Nat) : Nat → Prop
  | refl : Rt g p p
  | step {q r : Nat} : Rt g p q → r ∈ (plAt g q).tg → Rt g p r
theorem Rt.trans {g : List Pl} {p q r : Nat} (h : Rt g p q) (k : Rt g q r) : Rt g p r := by
  induction k with
  | refl => exact h
  | step _ m ih => exact .step ih m
theorem Rt.one {g : List Pl} {p r : Nat} (m : r ∈ (plAt g p).tg) : Rt g p r := .step .refl m
/-- targets stand in the game -/
def TgIn (g : List Pl) : Prop := ∀ p ∈ g, ∀ t ∈ p.tg, t < g.length
theorem Rt.lt {g : List Pl} (ht : TgIn g) {p q : Nat} (hp : p < g.length) (h : Rt g p q) : q < g.length := by
  induction h with
  | refl => exact hp
  | step h m ih => exact ht _ (plAt_mem ih) _ m
noncomputable def rtB (g : List Pl) (p q : Nat) : Bool := @decide (Rt g p q) (Classical.propDecidable _)
theorem rtB_iff {g : List Pl} {p q : Nat} : rtB g p q = true ↔ Rt g p q := @decide_eq_true_iff _ (Classical.propDecidable _)
noncomputable def rcL (g : List Pl) (p : Nat) : List Nat := (List.range g.length).filter (rtB g p)
theorem mem_rcL {g : List Pl} {p q : Nat} : q ∈ rcL g p ↔ q < g.length ∧ Rt g p q := by
  unfold rcL
  rw [List.mem_filter, List.mem_range, rtB_iff]
theorem mem_rcL' {g : List Pl} (ht : TgIn g) {p q : Nat} (hp : p < g.length) : q ∈ rcL g p ↔ Rt g p q :=
  mem_rcL.trans ⟨fun h => h.2, fun h => ⟨h.lt ht hp, h⟩⟩
theorem asc_rcL (g : List Pl) (p : Nat) : Asc (rcL g p) := asc_filter (asc_range _)
theorem rcL_len (g : List Pl) (p : Nat) : (rcL g p).length ≤ g.length := by
  have := List.length_filter_le (rtB g p) (List.range g.length)
  unfold rcL
  rwa [List.length_range] at this
abbrev nI (xs : List Nat) : List Int := xs.map fun (n : Nat) => (n : Int)
theorem nI_mem {xs : List Nat} {k : Nat} : (k : Int) ∈ nI xs ↔ k ∈ xs := by
  rw [List.mem_map]
  exact ⟨fun ⟨y, hy, e⟩ => (show y = k by omega) ▸ hy, fun h => ⟨k, h, rfl⟩⟩
theorem nI_nL (xs : List Nat) : (nI xs).map PyData.int = nL xs := by unfold nI; rw [List.map_map]; rfl
theorem nI_nodup {xs : List Nat} (h : xs.Nodup) : (nI xs).Nodup := by
  unfold nI
  rw [List.nodup_iff_pairwise_ne, List.pairwise_map]
  rw [List.nodup_iff_pairwise_ne] at h
  exact h.imp fun h z => h (by omega)
theorem srtI_nI {xs ys : List Nat} (hx : xs.Nodup) (hy : Asc ys) (h : ∀ k, k ∈ xs ↔ k ∈ ys) : srtI (nI xs) = nI ys := by
  have p : xs.Perm ys := (List.perm_ext_iff_of_nodup hx (asc_nodup hy)).mpr h
  refine sorted_one ((srtI_perm _).trans (p.map _)) (srtI_sorted _) ?_
  unfold nI
  rw [List.pairwise_map]
  exact hy.imp fun h => by omega
/-- how far the search has come: F found, W waiting -/
structure Srch (g : List Pl) (p : Nat) (F W : List Nat) : Prop where
  nd : F.Nodup
  st : p ∈ F
  rc : ∀ x ∈ F, Rt g p x
  wf : ∀ x ∈ W, x ∈ F
  wn : W.Nodup
  cl : ∀ x ∈ F, x ∉ W → ∀ t ∈ (plAt g x).tg, t ∈ F
theorem Srch.done {g : List Pl} {p : Nat} {F : List Nat} (h : Srch g p F []) {q : Nat} : q ∈ F ↔ Rt g p q := by
  refine ⟨h.rc q, fun k => ?_⟩
  induction k with
  | refl => exact h.st
  | step _ m ih => exact h.cl _ ih List.not_mem_nil _ m
/-- one look at the targets -/
def look (s : List Nat × List Nat) (t : Nat) : List Nat × List Nat := if t ∈ s.1 then s else (s.1 ++ [t], s.2 ++ [t])
structure Lk (F W F' W' : List Nat) (ts : List Nat) : Prop where
  nd : F'.Nodup
  up : ∀ x, x ∈ F' ↔ x ∈ F ∨ x ∈ ts
  wt : ∀ x, x ∈ W' ↔ x ∈ W ∨ (x ∈ F' ∧ x ∉ F)
  ln : W'.length + F.length = W.length + F'.length
  wn : W'.Nodup
theorem look_ok : ∀ (ts : List Nat) (F W : List Nat), F.Nodup → (∀ x ∈ W, x ∈ F) → W.Nodup → Lk F W (ts.foldl look (F, W)).1 (ts.foldl look (F, W)).2 ts
  | [], F, W, h, hw, hn => ⟨h, fun x => by simp, fun x => ⟨fun a => .inl a, fun a => a.elim id fun b => absurd b.1 b.2⟩, by simp, hn⟩
  | t :: ts, F, W, h, hw, hn => by
    rw [List.foldl_cons]
    by_cases c : t ∈ F
    · rw [show look (F, W) t = (F, W) from if_pos c]
      have k := look_ok ts F W h hw hn
      refine ⟨k.nd, fun x => (k.up x).trans ⟨fun a => a.elim .inl fun b => .inr (List.mem_cons_of_mem _ b), fun a => a.elim .inl fun b => ?_⟩, k.wt, k.ln, k.wn⟩
      rcases List.mem_cons.mp b with rfl | b
      · exact .inl c
      · exact .inr b
    · rw [show look (F, W) t = (F ++ [t], W ++ [t]) from if_neg c]
      have h' : (F ++ [t]).Nodup := List.nodup_append.mpr ⟨h, by simp, fun a ha b hb => by simp at hb; subst hb; exact fun z => c (z ▸ ha)⟩
      have hw' : ∀ x ∈ W ++ [t], x ∈ F ++ [t] := fun x hx => by
        rcases List.mem_append.mp hx with a | a
        · exact List.mem_append.mpr (.inl (hw x a))
        · exact List.mem_append.mpr (.inr a)
      have hn' : (W ++ [t]).Nodup := List.nodup_append.mpr ⟨hn, by simp, fun a ha b hb => by simp at hb; subst hb; exact fun z => c (z ▸ hw a ha)⟩
      have k := look_ok ts (F ++ [t]) (W ++ [t]) h' hw' hn'
      have ht : t ∈ (ts.foldl look (F ++ [t], W ++ [t])).1 := (k.up t).mpr (.inl (by simp))
      refine ⟨k.nd, fun x => (k.up x).trans ?_, fun x => (k.wt x).trans ?_, ?_, k.wn⟩
      · simp only [List.mem_append, List.mem_cons, List.not_mem_nil, or_false]
        constructor
        · rintro ((a | a) | a)
          · exact .inl a
          · exact .inr (.inl a)
          · exact .inr (.inr a)
        · rintro (a | a | a)
          · exact .inl (.inl a)
          · exact .inl (.inr a)
          · exact .inr a
      · simp only [List.mem_append, List.mem_cons, List.not_mem_nil, or_false]
        constructor
        · rintro ((a | rfl) | ⟨a, b⟩)
          · exact .inl a
          · exact .inr ⟨ht, c⟩
          · exact .inr ⟨a, fun z => b (.inl z)⟩
        · rintro (a | ⟨a, b⟩)
          · exact .inl (.inl a)
          · by_cases e : x = t
            · exact .inl (.inr e)
            · exact .inr ⟨a, fun z => z.elim b e⟩
      · have := k.ln
        simp only [List.length_append, List.length_cons, List.length_nil] at this
        omega
theorem Srch.next {g : List Pl} {p q : Nat} {F W : List Nat} (h : Srch g p F (W ++ [q])) : Srch g p (((plAt g q).tg).foldl look (F, W)).1 (((plAt g q).tg).foldl look (F, W)).2 := by
  have k := look_ok (plAt g q).tg F W h.nd (fun x hx => h.wf x (by simp [hx])) (List.nodup_append.mp h.wn).1
  have hqF : q ∈ F := h.wf q (by simp)
  refine ⟨k.nd, (k.up p).mpr (.inl h.st), fun x hx => ?_, fun x hx => ?_, k.wn, fun x hx hw t ht => ?_⟩
  · rcases (k.up x).mp hx with a | a
    · exact h.rc x a
    · exact .step (h.rc q hqF) a
  · rcases (k.wt x).mp hx with a | a
    · exact (k.up x).mpr (.inl (h.wf x (by simp [a])))
    · exact a.1
  · by_cases c : x ∈ F
    · by_cases e : x = q
      · subst e; exact (k.up t).mpr (.inr ht)
      · have hxw : x ∉ W ++ [q] := fun z => by
          rcases List.mem_append.mp z with z | z
          · exact hw ((k.wt x).mpr (.inl z))
          · simp at z; exact e z
        exact (k.up t).mpr (.inl (h.cl x c hxw t ht))
    · exact absurd ((k.wt x).mpr (.inr ⟨hx, c⟩)) hw
theorem nodup_lt {F : List Nat} {n : Nat} (h : F.Nodup) (hb : ∀ x ∈ F, x < n) : F.length ≤ n := by
  have p : F.Perm ((List.range n).filter fun k => decide (k ∈ F)) := (List.perm_ext_iff_of_nodup h (asc_nodup (asc_filter (asc_range n)))).mpr fun k => by
    rw [List.mem_filter, List.mem_range, decide_eq_true_iff]
    exact ⟨fun a => ⟨hb k a, a⟩, fun a => a.2⟩
  rw [p.length_eq]
  have := List.length_filter_le (fun k => decide (k ∈ F)) (List.range n)
  rwa [List.length_range] at this
end Dl
namespace Dl
open PySem PySem.Spec PyProof.Rows L2
/-! ### reached within so many steps -/
def Rn (g : List Pl) (p : Nat) : Nat → Nat → Prop
  | 0, q => q = p
  | m + 1, q => Rn g p m q ∨ ∃ r, Rn g p m r ∧ q ∈ (plAt g r).tg
theorem Rn.rt {g : List Pl} {p : Nat} : ∀ {m q : Nat}, Rn g p m q → Rt g p q
  | 0, _, h => by rw [show _ = p from h]; exact .refl
  | m + 1, q, h => by
    rcases h with h | ⟨r, h, k⟩
    · exact Rn.rt h
    · exact .step (Rn.rt h) k
theorem Rn.up {g : List Pl} {p m q : Nat} (h : Rn g p m q) : ∀ {k : Nat}, m ≤ k → Rn g p k q := fun {k} hk => by
  induction k with
  | zero => rw [show m = 0 by omega] at h; exact h
  | succ k ih =>
    by_cases c : m = k + 1
    · subst c; exact h
    · exact .inl (ih (by omega))
theorem Rn.add {g : List Pl} {p r : Nat} {a : Nat} (h : Rn g p a r) : ∀ {b q : Nat}, Rn g r b q → Rn g p (a + b) q
  | 0, q, k => by rw [show q = r from k]; exact h
  | b + 1, q, k => by
    rcases k with k | ⟨s, k, m⟩
    · exact .inl (Rn.add h k)
    · exact .inr ⟨s, Rn.add h k, m⟩
theorem Rn.split {g : List Pl} {p : Nat} {a : Nat} : ∀ {b q : Nat}, Rn g p (a + b) q → ∃ r, Rn g p a r ∧ Rn g r b q
  | 0, q, h => ⟨q, h, rfl⟩
  | b + 1, q, h => by
    rcases h with h | ⟨s, h, m⟩
    · obtain ⟨r, h1, h2⟩ := Rn.split h
      exact ⟨r, h1, .inl h2⟩
    · obtain ⟨r, h1, h2⟩ := Rn.split h
      exact ⟨r, h1, .inr ⟨s, h2, m⟩⟩
noncomputable def rnB (g : List Pl) (p m q : Nat) : Bool := @decide (Rn g p m q) (Classical.propDecidable _)
theorem rnB_iff {g : List Pl} {p m q : Nat} : rnB g p m q = true ↔ Rn g p m q := @decide_eq_true_iff _ (Classical.propDecidable _)
theorem Rn.lt {g : List Pl} (ht : TgIn g) {p m q : Nat} (hp : p < g.length) (h : Rn g p m q) : q < g.length := h.rt.lt ht hp
theorem rn_grow {g : List Pl} (ht : TgIn g) {p : Nat} (hp : p < g.length) : ∀ m, m + 1 ≤ ((List.range g.length).filter (rnB g p m)).length ∨ ∀ q, Rt g p q → Rn g p m q
  | 0 => by
    left
    have : p ∈ (List.range g.length).filter (rnB g p 0) := List.mem_filter.mpr ⟨List.mem_range.mpr hp, rnB_iff.mpr rfl⟩
    exact List.length_pos_of_mem this
  | m + 1 => by
    rcases rn_grow ht hp m with h | h
    · by_cases c : ∀ q, Rn g p (m + 1) q → Rn g p m q
      · right
        intro q hq
        refine .inl ?_
        induction hq with
        | refl => exact Rn.up (m := 0) rfl (Nat.zero_le _)
        | step _ k ih => exact c _ (.inr ⟨_, ih, k⟩)
      · left
        obtain ⟨q, hq⟩ := Classical.not_forall.mp c
        obtain ⟨h1, h2⟩ := Classical.not_imp.mp hq
        have s : ((List.range g.length).filter (rnB g p m)).Sublist ((List.range g.length).filter (rnB g p (m + 1))) :=
by
          have e : (List.range g.length).filter (rnB g p m) = ((List.range g.length).filter (rnB g p (m + 1))).filter (rnB g p m) := by
            rw [List.filter_filter]
            refine List.filter_congr fun x _ => ?_
            cases z : rnB g p m x with
            | false => rfl
            | true => rw [Bool.true_and, rnB_iff.mpr (show Rn g p (m + 1) x from Or.inl (rnB_iff.mp z))]
          rw [e]
          exact List.filter_sublist
        have hl := s.length_le
        rcases Nat.lt_or_ge ((List.range g.length).filter (rnB g p m)).length ((List.range g.length).filter (rnB g p (m + 1))).length with z | z
        · omega
        · exfalso
          have e := s.eq_of_length (by omega)
          have : q ∈ (List.range g.length).filter (rnB g p (m + 1)) := List.mem_filter.mpr ⟨List.mem_range.mpr (h1.lt ht hp), rnB_iff.mpr h1⟩
          rw [← e] at this
          exact h2 (rnB_iff.mp (List.mem_filter.mp this).2)
    · exact .inr fun q hq => .inl (h q hq)
theorem rn_all {g : List Pl} (ht : TgIn g) {p : Nat} (hp : p < g.length) {m : Nat} (hm : g.length ≤ m) {q : Nat} : Rn g p m q ↔ Rt g p q := by
  refine ⟨Rn.rt, fun h => ?_⟩
  rcases rn_grow ht hp g.length with k | k
  · have := List.length_filter_le (rnB g p g.length) (List.range g.length)
    rw [List.length_range] at this
    omega
  · exact (k q h).up hm
/-! ### closed classes -/
def Cls (g : List Pl) (k : Nat) : Prop := ∀ q ∈ rcL g k, Rt g q k
noncomputable def clB (g : List Pl) (k : Nat) : Bool := @decide (Cls g k) (Classical.propDecidable _)
theorem clB_iff {g : List Pl} {k : Nat} : clB g k = true ↔ Cls g k := @decide_eq_true_iff _ (Classical.propDecidable _)
/-- the first place of what it reaches -/
noncomputable def fsB (g : List Pl) (k : Nat) : Bool := (rcL g k).all fun q => decide (k ≤ q)
noncomputable def ccL (g : List Pl) : List (List Nat) := ((List.range g.length).filter fun k => fsB g k && clB g k).map (rcL g)
theorem rcL_self {g : List Pl} {k : Nat} (hk : k < g.length) : k ∈ rcL g k := mem_rcL.mpr ⟨hk, .refl⟩
theorem cls_same {g : List Pl} (ht : TgIn g) {k : Nat} (hk : k < g.length) : Cls g k ↔ ∀ o ∈ rcL g k, rcL g o = rcL g k := by
  constructor
  · intro h o ho
    have hol := (mem_rcL.mp ho).1
    refine asc_ext (asc_rcL g o) (asc_rcL g k) fun q => ?_
    rw [mem_rcL' ht hol, mem_rcL' ht hk]
    exact ⟨fun a => (mem_rcL.mp ho).2.trans a, fun a => (h o ho).trans a⟩
  · intro h q hq
    have hql := (mem_rcL.mp hq).1
    have : k ∈ rcL g q := by rw [h q hq]; exact rcL_self hk
    exact (mem_rcL.mp this).2
theorem fs_head {g : List Pl} {k : Nat} (hk : k < g.length) : fsB g k = decide ((rcL g k).getD 0 0 = k) := by
  unfold fsB
  have hm := rcL_self hk
  have ha := asc_rcL g k
  rw [Bool.eq_iff_iff, List.all_eq_true, decide_eq_true_eq]
  generalize rcL g k = l at hm ha
  match l, hm with
  | x :: l, hm =>
    have ha' := List.pairwise_cons.mp ha
    show (∀ q ∈ x :: l, decide (k ≤ q) = true) ↔ x = k
    constructor
    · intro h
      have h1 := of_decide_eq_true (h x (by simp))
      rcases List.mem_cons.mp hm with e | e
      · exact e.symm
      · have := ha'.1 k e
        omega
    · intro e q hq
      subst e
      rcases List.mem_cons.mp hq with e | e
      · exact decide_eq_true (Nat.le_of_eq e.symm)
      · exact decide_eq_true (Nat.le_of_lt (ha'.1 q e))
/-- found in order, each once -/
noncomputable def ccStep (g : List Pl) (s : List (List Nat)) (k : Nat) : List (List Nat) := if (clB g k && !decide (rcL g k ∈ s)) = true then s ++ [rcL g k] else s
theorem cc_fold {g : List Pl} (ht : TgIn g) : ∀ m, m ≤ g.length → (List.range m).foldl (ccStep g) [] = ((List.range m).filter fun k => fsB g k && clB g k).map (rcL g)
  | 0, _ => rfl
  | m + 1, hm => by
    rw [List.range_succ, List.foldl_append, cc_fold ht m (by omega), List.filter_append, List.map_append]
    show ccStep g _ m = _
    unfold ccStep
    have hml : m < g.length := by omega
    by_cases c : Cls g m
    · have cb : clB g m = true := clB_iff.mpr c
      have key : (rcL g m ∈ ((List.range m).filter fun k => fsB g k && clB g k).map (rcL g)) ↔ fsB g m = false := by
        constructor
        · intro h
          obtain ⟨k, hk, e⟩ := List.mem_map.mp h
          obtain ⟨h1, _⟩ := List.mem_filter.mp hk
          have h1 := List.mem_range.mp h1
          rw [← Bool.not_eq_true]
          intro z
          have := List.all_eq_true.mp z k (by rw [← e]; exact rcL_self (by omega))
          have := of_decide_eq_true this
          omega
        · intro h
          have : ∃ q ∈ rcL g m, q < m := by
            apply Classical.byContradiction
            intro n
            have : fsB g m = true := List.all_eq_true.mpr fun q hq => decide_eq_true (by
              rcases Nat.lt_or_ge q m with z | z
              · exact absurd ⟨q, hq, z⟩ n
              · exact z)
            rw [h] at this; cases this
          -- the least one
          obtain ⟨x, l, e⟩ : ∃ x l, rcL g m = x :: l := by
            obtain ⟨q, hq, _⟩ := this
            cases z : rcL g m with
            | nil => rw [z] at hq; cases hq
            | cons x l => exact ⟨x, l, rfl⟩
          have ha := asc_rcL g m
          rw [e] at ha
          have ha' := List.pairwise_cons.mp ha
          have hx : x ∈ rcL g m := by rw [e]; simp
          have hxm : x < m := by
            obtain ⟨q, hq, hl⟩ := this
            rw [e] at hq
            rcases List.mem_cons.mp hq with rfl | hq
            · exact hl
            · have := ha'.1 q hq; omega
          have es := (cls_same ht hml).mp c x hx
          refine List.mem_map.mpr ⟨x, List.mem_filter.mpr ⟨List.mem_range.mpr hxm, ?_⟩, es⟩
          rw [Bool.and_eq_true]
          refine ⟨?_, clB_iff.mpr ?_⟩
          · unfold fsB
            rw [es, e]
            exact List.all_eq_true.mpr fun q hq => by
              rcases List.mem_cons.mp hq with rfl | hq
              · exact decide_eq_true (Nat.le_refl _)
              · exact decide_eq_true (Nat.le_of_lt (ha'.1 q hq))
          · intro q hq
            rw [es] at hq
            have := (cls_same ht hml).mp c q hq
            have hx2 : x ∈ rcL g q := by rw [this]; exact hx
            exact (mem_rcL.mp hx2).2
      rw [cb, Bool.true_and]
      cases f : fsB g m with
      | false =>
        rw [decide_eq_true (key.mpr f), Bool.not_true, if_neg Bool.false_ne_true]
        simp [f]
      | true =>
        have : ¬ (rcL g m ∈ ((List.range m).filter fun k => fsB g k && clB g k).map (rcL g)) := fun z => by rw [key.mp z] at f; cases f
        rw [decide_eq_false this, Bool.not_false, if_pos rfl]
        simp [f, cb]
    · have cb : clB g m = false := by
        rw [← Bool.not_eq_true]; exact fun z => c (clB_iff.mp z)
      rw [cb, Bool.false_and, if_neg Bool.false_ne_true]
      simp [cb]
end Dl

set_option Elab.async false
set_option linter.all false
set_option maxRecDepth 100000
set_option maxHeartbeats 2000000
namespace Dl
open PySem PySem.Spec PyProof.Rows L2
/-! ### dicts of data: keys that are ints, keys that are pairs of ints -/
section
variable {ι κ : Type}
def getM [DecidableEq ι] : List (ι × D) → ι → Option D
  | [], _ => none
  | p :: r, k => if p.1 = k then some p.2 else getM r k
def putM [DecidableEq ι] (m : List (ι × D)) (k : ι) (v : D) : List (ι × D) := if (m.any fun p => decide (p.1 = k)) = true then m.map (fun p => if p.1 = k then (p.1, v) else p) else m ++ [(k, v)]
theorem putM_len [DecidableEq ι] (m : List (ι × D)) (k : ι) (v : D) : (putM m k v).length ≤ m.length + 1 := by
  unfold putM
  split
  · rw [List.length_map]; omega
  · rw [List.length_append]; simp
inductive KvA (K : PySem.W.Frag) (H : Hp) (key : ι → κ) : List (κ × V) → List (ι × D) → Prop
  | nil : KvA K H key [] []
  | cons {k : ι} {v : V} {d : D} {r : List (κ × V)} {m : List (ι × D)} : Dp K H v d → KvA K H key r m → KvA K H key ((key k, v) :: r) ((k, d) :: m)
variable {K : PySem.W.Frag} {H H' : Hp} {key : ι → κ}
theorem KvA.mono (e : Same H H') : ∀ {r : List (κ × V)} {m : List (ι × D)}, KvA K H key r m → KvA K H' key r m
  | _, _, .nil => .nil
  | _, _, .cons h t => .cons (dp_mono e _ _ h) (KvA.mono e t)
theorem KvA.len : ∀ {r : List (κ × V)} {m : List (ι × D)}, KvA K H key r m → r.length = m.length
  | _, _, .nil => rfl
  | _, _, .cons _ t => congrArg (· + 1) (KvA.len t)
theorem KvA.app : ∀ {r s : List (κ × V)} {m n : List (ι × D)}, KvA K H key r m → KvA K H key s n → KvA K H key (r ++ s) (m ++ n)
  | _, _, _, _, .nil, h => h
  | _, _, _, _, .cons h t, h' => .cons h (KvA.app t h')
theorem KvA.at : ∀ {r : List (κ × V)} {m : List (ι × D)} {i : Nat} {p : ι × D}, KvA K H key r m → m[i]? = some p → ∃ v, r[i]? = some (key p.1, v) ∧ Dp K H v p.2
  | _, _, _, _, .nil, e => by simp at e
  | _, _, 0, _, .cons h _, e => by simp at e; subst e; exact ⟨_, rfl, h⟩
  | _, _, i + 1, p, .cons _ t, e => by
    obtain ⟨v, h1, h2⟩ := KvA.at (i := i) (p := p) t (by simpa using e)
    exact ⟨v, by simpa using h1, h2⟩
variable [DecidableEq ι] [DecidableEq κ]
theorem KvA.get (inj : ∀ a b, key a = key b → a = b) {k : ι} : ∀ {r : List (κ × V)} {m : List (ι × D)} {d : D}, KvA K H key r m → getM m k = some d → ∃ v, valV r (key k) = some v ∧ Dp K H v d
  | _, _, _, .nil, e => by cases e
  | _, _, d, .cons (k := k') h t, e => by
    unfold getM at e
    by_cases c : k' = k
    · rw [if_pos c] at e; cases e
      exact ⟨_, valV_pos (by rw [c]), h⟩
    · rw [if_neg c] at e
      obtain ⟨v, h1, h2⟩ := KvA.get inj t e
      exact ⟨v, by rw [valV_neg (fun z => c (inj _ _ z))]; exact h1, h2⟩
theorem KvA.any (inj : ∀ a b, key a = key b → a = b) {k : ι} : ∀ {r : List (κ × V)} {m : List (ι × D)}, KvA K H key r m → (r.any fun kv => decide (kv.1 = key k)) = m.any fun p => decide (p.1 = k)
  | _, _, .nil => rfl
  | _, _, .cons (k := k') h t => by
    rw [List.any_cons, List.any_cons, KvA.any inj t]
    by_cases c : k' = k
    · simp [c]
    · have : ¬ key k' = key k := fun z => c (inj _ _ z)
      simp [c, this]
theorem KvA.mp (inj : ∀ a b, key a = key b → a = b) {k : ι} {v : V} {d : D} (hv : Dp K H v d) : ∀ {r : List (κ × V)} {m : List (ι × D)}, KvA K H key r m → KvA K H key (r.map fun kv => if kv.1 = key k then (kv.1, v) else kv) (m.map fun p => if p.1 = k then (p.1, d) else p)
  | _, _, .nil => .nil
  | _, _, .cons (k := k') h t => by
    rw [List.map_cons, List.map_cons]
    by_cases c : k' = k
    · simp only [c, if_true]; exact .cons hv (KvA.mp inj hv t)
    · have : ¬ key k' = key k := fun z => c (inj _ _ z)
      simp only [c, this, if_false]; exact .cons h (KvA.mp inj hv t)
theorem KvA.put (inj : ∀ a b, key a = key b → a = b) {k : ι} {v : V} {d : D} (hv : Dp K H v d) {r : List (κ × V)} {m : List (ι × D)} (h : KvA K H key r m) : KvA K H key (putK r (key k) v) (putM m k d) := by
  unfold putK putM
  rw [h.any inj]
  split
  · exact h.mp inj hv
  · exact h.app (.cons hv .nil)
end
abbrev WK := List (Int × D)
abbrev WT := List ((Int × Int) × D)
def kI (i : Int) : Key := .inl i
def kT (p : Int × Int) : List Key := [.inl p.1, .inl p.2]
theorem kI_inj : ∀ a b, kI a = kI b → a = b := fun _ _ h => Sum.inl.inj h
theorem kT_inj : ∀ a b, kT a = kT b → a = b := fun a b h => by
  unfold kT at h
  injection h with h1 h2
  injection h2 with h2 _
  exact Prod.ext (Sum.inl.inj h1) (Sum.inl.inj h2)
def encK (m : WK) : D := .dict (m.map fun p => (.int p.1, p.2))
def encT (m : WT) : D := .dict (m.map fun p => (.tuple [.int p.1.1, .int p.1.2], p.2))
def keyT : D → Option (Int × Int)
  | .tuple [.int a, .int b] => some (a, b)
  | _ => none
def asK : D → Option WK
  | .dict kvs => kvs.foldr (fun kv r => r.bind fun m => (asI kv.1).bind fun k => some ((k, kv.2) :: m)) (some [])
  | _ => none
def asT : D → Option WT
  | .dict kvs => kvs.foldr (fun kv r => r.bind fun m => (keyT kv.1).bind fun k => some ((k, kv.2) :: m)) (some [])
  | _ => none
theorem asK_enc : ∀ m : WK, asK (encK m) = some m
  | [] => rfl
  | p :: r => by
    have ih := asK_enc r
    unfold asK encK at ih ⊢
    simp only [List.map_cons, List.foldr_cons] at ih ⊢
    rw [ih]; rfl
theorem asT_enc : ∀ m : WT, asT (encT m) = some m
  | [] => rfl
  | p :: r => by
    have ih := asT_enc r
    unfold asT encT at ih ⊢
    simp only [List.map_cons, List.foldr_cons] at ih ⊢
    rw [ih]; rfl
def VK' (m : WK) (K : PySem.W.Frag) (G : Hp) (o : Option V) : Prop := ∃ a kvs, o = some (.ref a) ∧ Rd G a (.dK kvs) ∧ KvA K G kI kvs m
def VT' (m : WT) (K : PySem.W.Frag) (G : Hp) (o : Option V) : Prop := ∃ a kvs, o = some (.ref a) ∧ Rd G a (.dT kvs) ∧ KvA K G kT kvs m
/-- a dict that is shared -/
def Sl.wk (m : WK) : Sl := .plain (VK' m) fun g ⟨a, kvs, e, h, t⟩ => ⟨a, kvs, e, rd_mono g h, t.mono g⟩
def Sl.st (m : WT) : Sl := .plain (VT' m) fun g ⟨a, kvs, e, h, t⟩ => ⟨a, kvs, e, rd_mono g h, t.mono g⟩
/-- a dict of its own -/
def Sl.ot (m : WT) : Sl where
  sm := false
  v := VT' m
  p := fun K _ G H o S => ∃ a kvs, o = some (.ref a) ∧ S = [a] ∧ H a = some (.dT kvs) ∧ KvA K G kT kvs m
  vm := fun g ⟨a, kvs, e, h, t⟩ => ⟨a, kvs, e, rd_mono g h, t.mono g⟩
  pm := fun g hs _ ⟨a, kvs, e, es, hl, t⟩ => ⟨a, kvs, e, es, (hs a (by rw [es]; simp)).trans hl, t.mono g⟩
  pv := fun _ g ⟨a, kvs, e, es, hl, t⟩ => ⟨a, kvs, e, .inl hl, t.mono g⟩
  pe := fun h => by cases h
/-- .. locked -/
def Sl.ol (a : Addr) (od : Obj) (kvs : List (List Key × V)) (m : WT) : Sl where
  sm := false
  v := VT' m
  p := fun K _ G H o S => o = some (.ref a) ∧ S = [a] ∧ H a = some (.frz od (.dT kvs)) ∧ KvA K G kT kvs m
  vm := fun g ⟨a, kvs, e, h, t⟩ => ⟨a, kvs, e, rd_mono g h, t.mono g⟩
  pm := fun g hs _ ⟨e, es, hl, t⟩ => ⟨e, es, (hs a (by rw [es]; simp)).trans hl, t.mono g⟩
  pv := fun _ g ⟨e, es, hl, t⟩ => ⟨a, kvs, e, .inr ⟨od, hl⟩, t.mono g⟩
  pe := fun h => by cases h
def wkGet (m : WK) : D → Option D
  | .int k => getM m k
  | _ => none
def wtGet (m : WT) : D → D → Option D
  | .int k, .int l => getM m (k, l)
  | _, _ => none
section
variable {K : PySem.W.Frag} {M : Md} {env : En} {α β : Type} {en : α → En} {eb : β → En} {ty t1 t2 te : TE} {rk r1 r2 re : Option D}
theorem dv_wkget (i : Nat) {m : WK} (hk : DV K env ty rk) (h : env[i]? = some (Sl.wk m) := by rfl) : DV K env (tDGet (tVar i) ty) (rk.bind (wkGet m)) := fun σ G H Q d s g e q => by
  obtain ⟨y, ey, e⟩ := bind_some e
  obtain ⟨o, h1, a, kvs, rfl, h2, h3⟩ := s.at' i _ h
  refine ⟨.ref a, h1, hk σ G H _ y s g ey fun w G1 H1 E1 hw => ?_⟩
  cases y with
  | int k =>
    cases hw
    obtain ⟨v, e1, e2⟩ := h3.get kI_inj e
    exact ⟨a, v, rfl, .inl ⟨kvs, .inl k, rd_mono E1.gh (rd_mono E1.gg h2), rfl, e1.symm⟩, q v G1 H1 E1 (dp_mono E1.gg _ _ e2)⟩
  | _ => cases e
theorem dv_tgetV (i : Nat) {m : WT} {sl : Sl} (hv : ∀ K G o, sl.v K G o → VT' m K G o) (h : env[i]? = some sl) (hk : DV K env t1 r1) (hl : DV K env t2 r2) : DV K env (tDGet (tVar i) (tTup (tCons t1 (tCons t2 tNil)))) (op2 (wtGet m) r1 r2) := fun σ G H Q d s g e q => by
  obtain ⟨y, ey, e⟩ := bind_some e
  obtain ⟨z, ez, e⟩ := bind_some e
  obtain ⟨o, h1, hv1⟩ := s.at' i _ h
  obtain ⟨a, kvs, rfl, h2, h3⟩ := hv _ _ _ hv1
  refine ⟨.ref a, h1, hk σ G H _ y s g ey fun w G1 H1 E1 hw => hl σ G1 H1 _ z (s.mono E1.gg) E1.gh ez fun w2 G2 H2 E2 hw2 => ⟨by show 2 ≤ sizeLine; decide, fun p hp => ?_⟩⟩
  cases y with
  | int k =>
    cases z with
    | int l =>
      cases hw; cases hw2
      obtain ⟨v, e1, e2⟩ := h3.get kT_inj e
      have E12 := E1.trans E2
      have E := E12.trans (Ext.new (o := .tup [.int k, .int l]) E12.gh hp)
      exact ⟨a, v, rfl, .inr ⟨kvs, kT (k, l), p, rd_mono E.gh (rd_mono E.gg h2), rfl, upd_same, e1.symm⟩, q v _ _ E (dp_mono E.gg _ _ e2)⟩
    | _ => cases e
  | _ => cases z <;> cases e
theorem dv_stget (i : Nat) {m : WT} (hk : DV K env t1 r1) (hl : DV K env t2 r2) (h : env[i]? = some (Sl.st m) := by rfl) : DV K env (tDGet (tVar i) (tTup (tCons t1 (tCons t2 tNil)))) (op2 (wtGet m) r1 r2) := dv_tgetV i (fun _ _ _ h => h) h hk hl
theorem dv_otget (i : Nat) {m : WT} (hk : DV K env t1 r1) (hl : DV K env t2 r2) (h : env[i]? = some (Sl.ot m) := by rfl) : DV K env (tDGet (tVar i) (tTup (tCons t1 (tCons t2 tNil)))) (op2 (wtGet m) r1 r2) := dv_tgetV i (fun _ _ _ h => h) h hk hl
theorem dv_olget (i : Nat) {m : WT} {a : Addr} {od : Obj} {kvs : List (List Key × V)} (hk : DV K env t1 r1) (hl : DV K env t2 r2) (h : env[i]? = some (Sl.ol a od kvs m) := by rfl) : DV K env (tDGet (tVar i) (tTup (tCons t1 (tCons t2 tNil)))) (op2 (wtGet m) r1 r2) := dv_tgetV i (fun _ _ _ h => h) h hk hl
/-- x = {} -/
theorem ds_tnew {i : Nat} : DS K M env (tAsg tDNewT (gName i)) (fun m : WT => env.set i (.ot m)) eb (.nx [] : Out WT β) := fun σ G0 H0 B G H T s q p hp => by
  refine q _ G _ (s.put (Ext.own s.ext.gh hp) (sl := .ot []) (S := [p]) i ⟨p, [], rfl, rfl, upd_same, .nil⟩ fun a ha => ?_)
  simp at ha; subst ha
  exact ⟨hp, s.ext.gh.free hp, by rw [upd_same]; exact ⟨Option.some_ne_none _, id⟩⟩
def putT (m : WT) : D → D → D → Option WT
  | .int k, .int l, v => if m.length < sizeLine then some (putM m (k, l) v) else none
  | _, _, _ => none
def putT3 (m : WT) (r1 r2 re : Option D) : Option WT := re.bind fun v => r1.bind fun k => r2.bind fun l => putT m k l v
/-- d[k, l] = e -/
theorem ds_tput {i : Nat} {m : WT} (hi : env[i]? = some (Sl.ot m)) (he : DVX K env (noOw env) te re) (hk : DV K env t1 r1) (hl : DV K env t2 r2) :
    DS K M env (tAsg te (gSub (tVar i) (tTup (tCons t1 (tCons t2 tNil))) rSetD)) (fun m' => env.set i (.ot m')) eb (toO (putT3 m r1 r2 re)) := fun σ G0 H0 B G H T s q => by
  cases e : putT3 m r1 r2 re with
  | none => rw [e] at q; exact q.elim
  | some m' =>
    rw [e] at q
    obtain ⟨v, ev, e⟩ := bind_some e
    obtain ⟨k, ek, e⟩ := bind_some e
    obtain ⟨l, el, e⟩ := bind_some e
    refine he σ G H _ v s.all s.shd s.ext.gh ev fun w G1 H1 E1 hw => ?_
    have s1 := s.ext' E1
    have get : ∀ {H : Hp}, SS K env σ G0 H0 B G1 H → ∃ a kvs, σ[i]? = some (some (.ref a)) ∧ H a = some (.dT kvs) ∧ KvA K G1 kT kvs m := fun s => by
      obtain ⟨F, f1, _, _⟩ := s.fp
      obtain ⟨o, h1, a, kvs, rfl, _, h2, h3⟩ := f1 i _ hi
      exact ⟨a, kvs, h1, h2, h3⟩
    obtain ⟨a, _, h1, _, _⟩ := get s1
    refine ⟨.ref a, h1, hk σ H1 H1 _ k s1.all (Same.refl H1) ek fun u G2 H2 E2 hu => ?_⟩
    have s2 := s1.grow E2.hh
    refine hl σ H2 H2 _ l s2.all (Same.refl H2) el fun u2 G3 H3 E3 hu2 => ⟨by show 2 ≤ sizeLine; decide, fun p hp => ?_⟩
    have s3 := (s2.grow E3.hh).grow (same_upd (o := .tup [u, u2]) hp)
    obtain ⟨a2, kvs, h2, ha2, hkv⟩ := get s3
    rw [h1] at h2; cases h2
    cases k with
    | int k =>
      cases l with
      | int l =>
        cases hu; cases hu2
        have e : (if m.length < sizeLine then some (putM m (k, l) v) else none) = some m' := e
        by_cases hz : m.length < sizeLine
        · rw [if_pos hz] at e; cases e
          refine ⟨a, _, rfl, .inr ⟨kvs, kT (k, l), p, ha2, rfl, upd_same, by rw [hkv.len]; exact hz, rfl⟩, q σ G1 _ (s3.chgS hi fun o S ho hO ⟨p2, kvs2, e, hS, hl, hd2⟩ => ?_)⟩
          subst e
          rw [h1] at ho; cases ho
          rw [hl] at ha2; cases ha2
          subst hS
          refine ⟨⟨a, _, rfl, rfl, upd_same, hkv.put kT_inj hw⟩, fun b hb => upd_ne (by simpa using hb), fun b hb => ?_⟩
          simp at hb; subst hb; rw [upd_same]; exact ⟨Option.some_ne_none _, id⟩
        · rw [if_neg hz] at e; cases e
      | _ => cases e
    | _ => cases l <;> cases e
/-- x = y, y an own dict that is looked at no more -/
theorem ds_tmove {i j : Nat} {m : WT} (hj : env[j]? = some (Sl.ot m)) (hij : i ≠ j) : DS K M env (tAsg (tVar j) (gName i)) (fun _ : Unit => (env.set j .un).set i (.ot m)) eb (.nx () : Out Unit β) := fun σ G0 H0 B G H T s q => by
  obtain ⟨F, f1, f2, f3⟩ := s.fp
  obtain ⟨o, h1, a, kvs, rfl, hS, h2, h3⟩ := f1 j _ hj
  have haF : a ∈ F j := by rw [hS]; simp
  refine ⟨.ref a, h1, q _ G H ?_⟩
  refine ⟨s.ext, s.bg, by rw [List.length_set, List.length_set, List.length_set]; exact s.len, fpSet (fpSet F j []) i [a], fun k sl hk => ?_, fun k b hb => ?_, fun k l b hkl hb => ?_⟩
  · rcases set_some hk with ⟨rfl, rfl, hl⟩ | ⟨ne, hk⟩
    · rw [fpSet_pos rfl]; exact ⟨_, List.getElem?_set_self (by rw [s.len]; rw [List.length_set] at hl; exact hl), a, kvs, rfl, rfl, h2, h3⟩
    · rw [fpSet_neg (Ne.symm ne), List.getElem?_set_ne ne]
      rcases set_some hk with ⟨rfl, rfl, hl⟩ | ⟨ne2, hk⟩
      · rw [fpSet_pos rfl]; exact ⟨_, h1, rfl, trivial⟩
      · rw [fpSet_neg (Ne.symm ne2)]; exact f1 k sl hk
  · by_cases c : k = i
    · rw [fpSet_pos c] at hb; simp at hb; subst hb; exact f2 j b haF
    · rw [fpSet_neg c] at hb
      by_cases c2 : k = j
      · rw [fpSet_pos c2] at hb; cases hb
      · rw [fpSet_neg c2] at hb; exact f2 k b hb
  · by_cases c : k = i
    · rw [fpSet_pos c] at hb; simp at hb; subst hb
      rw [fpSet_neg (fun z => hkl (c.trans z.symm))]
      by_cases c2 : l = j
      · rw [fpSet_pos c2]; exact List.not_mem_nil
      · rw [fpSet_neg c2]; exact fun z => f3 j l b (Ne.symm c2) haF z
    · rw [fpSet_neg c] at hb
      by_cases c2 : k = j
      · rw [fpSet_pos c2] at hb; cases hb
      · rw [fpSet_neg c2] at hb
        by_cases c3 : l = i
        · rw [fpSet_pos c3]; simp; exact fun z => f3 k j b c2 hb (by rw [z]; exact haF)
        · rw [fpSet_neg c3]
          by_cases c4 : l = j
          · rw [fpSet_pos c4]; exact List.not_mem_nil
          · rw [fpSet_neg c4]; exact f3 k l b hkl hb
/-- for x, y in an own dict -/
def keysT (m : WT) : List D := m.map fun p => .tuple [.int p.1.1, .int p.1.2]
def forK {α β : Type} (body : α → D → D → Out α α) : WT → α → Out α β
  | [], a => .nx a
  | p :: m, a => match body a (.int p.1.1) (.int p.1.2) with
    | .nx b => forK body m b
    | _ => .no
theorem ds_forT {i j k : Nat} {m : WT} {tb : TS} {e : α → En} {body : α → D → D → Out α α} {a0 : α} (hi : ∀ a, (e a)[i]? = some (Sl.ot m)) (h0 : Le (e a0) env) (hij : i ≠ j ∧ i ≠ k)
    (hb : ∀ a ad od kvs x y, DS K M ((((e a).set i (.ol ad od kvs m)).set j (.sh x)).set k (.sh y)) tb (fun a => (e a).set i (.ol ad od kvs m)) (fun a => (e a).set i (.ol ad od kvs m)) (body a x y)) :
    DS K M env (tLock (tFor (iKeys (tVar i)) (gTup K 2 (gCons (gName j) (gCons (gName k) gNil))) tb)) e eb (forK body m a0) := fun σ G0 H0 B G H T s q => by
  obtain ⟨G2, s2, g2⟩ := s.weak h0
  obtain ⟨F, f1, _, _⟩ := s2.fp
  obtain ⟨o, h1, ad, kvs, rfl, hS, h2, h3⟩ := f1 i _ (hi a0)
  refine ⟨ad, .dT kvs, h2, trivial, fun od => ?_⟩
  have lock : SS K ((e a0).set i (.ol ad od kvs m)) σ G0 H0 B G2 (upd H ad (.frz od (.dT kvs))) := s2.chgS (hi a0) fun o S ho hO ⟨p2, kvs2, e, hS, hl, hd2⟩ => by
    subst e
    rw [h1] at ho; cases ho
    rw [h2] at hl; cases hl
    subst hS
    refine ⟨⟨rfl, rfl, upd_same, hd2⟩, fun b hb => upd_ne (by simpa using hb), fun b hb => ?_⟩
    simp at hb; subst hb; rw [upd_same]; exact ⟨Option.some_ne_none _, id⟩
  have get : ∀ {a : α} {σ' : L2.St} {G' H' : Hp}, SS K ((e a).set i (.ol ad od kvs m)) σ' G0 H0 B G' H' → σ'[i]? = some (some (.ref ad)) ∧ H' ad = some (.frz od (.dT kvs)) ∧ KvA K G' kT kvs m := fun {a σ' G' H'} s => by
    obtain ⟨F, f1, _, _⟩ := s.fp
    have il : i < (e a).length := by
      rcases Nat.lt_or_ge i (e a).length with z | z
      · exact z
      · have := hi a; rw [List.getElem?_eq_none z] at this; cases this
    obtain ⟨o, h1, rfl, _, h2, h3⟩ := f1 i _ (List.getElem?_set_self il)
    exact ⟨h1, h2, h3⟩
  have hlen := h3.len
  refine ⟨.ref ad, h1, ad, od, rfl, .inr ⟨kvs, upd_same, ?_⟩⟩
  refine ⟨fun n w σ' H' => n ≤ m.length ∧ w = m.length - n ∧ ∃ (a : α) (G' : Hp), SS K ((e a).set i (.ol ad od kvs m)) σ' G0 H0 B G' H' ∧ Post K M e eb T G0 H0 B (forK body (m.drop n) a : Out α β),
    ⟨m.length, Nat.zero_le _, by omega, a0, G2, lock, by rw [List.drop_zero]; exact q⟩, ?_⟩
  rintro n w σ' H' ⟨hn, rfl, a, G', s', p⟩
  obtain ⟨k1, k2, k3⟩ := get s'
  by_cases hlt : n < m.length
  · right
    refine ⟨⟨k2, by omega⟩, fun σ'' H'' => ∃ w', w' < m.length - n ∧ (n + 1 ≤ m.length ∧ w' = m.length - (n + 1) ∧ ∃ (a : α) (G' : Hp), SS K ((e a).set i (.ol ad od kvs m)) σ'' G0 H0 B G' H'' ∧ Post K M e eb T G0 H0 B (forK body (m.drop (n + 1)) a : Out α β)), fun σ'' H'' h => h, fun x H3 hy => ?_⟩
    obtain ⟨rfl, kk, vv, qq, y1, rfl, y2⟩ := hy
    have hget : m[n]? = some m[n] := List.getElem?_eq_getElem hlt
    obtain ⟨v, z1, _⟩ := k3.at hget
    rw [y1] at z1; cases z1
    rw [List.drop_eq_getElem_cons hlt] at p
    unfold forK at p
    refine ⟨qq, [.int m[n].1.1, .int m[n].1.2], rfl, .inl (.inl y2), rfl, .int m[n].1.1, _, rfl, .int m[n].1.2, _, rfl, rfl, ?_⟩
    have s4 := (s'.set (v := .int m[n].1.1) j (.int _)).set (v := .int m[n].1.2) k (.int _)
    have s5 := s4.base (Same.refl _)
    refine hb a ad od kvs _ _ _ G0 H0 G' G' H3 _ s5 ?_
    have gB : ∀ {G6 : Hp}, Same G' G6 → Same B G6 := fun z => s4.bg.trans z
    revert p
    cases body a (.int m[n].1.1) (.int m[n].1.2) with
    | nx c => exact fun p σ6 G6 H6 s6 => ⟨_, by omega, hlt, rfl, c, G6, s6.base (gB s6.bg), p⟩
    | ct c => exact fun p => p.elim
    | bk c => exact fun p => p.elim
    | rt d => exact fun p => p.elim
    | no => exact fun p => p.elim
    | xc x => exact fun p => p.elim
  · left
    have ei : n = m.length := by omega
    subst ei
    rw [List.drop_length] at p
    have back : (((e a).set i (.ol ad od kvs m)).set i (.ot m)) = e a := by
      rw [List.set_set]
      refine List.ext_getElem? fun l => ?_
      by_cases c : i = l
      · subst c
        have il : i < (e a).length := by
          rcases Nat.lt_or_ge i (e a).length with z | z
          · exact z
          · have := hi a; rw [List.getElem?_eq_none z] at this; cases this
        rw [List.getElem?_set_self il, hi a]
      · rw [List.getElem?_set_ne c]
    have il : i < (e a).length := by
      rcases Nat.lt_or_ge i (e a).length with z | z
      · exact z
      · have := hi a; rw [List.getElem?_eq_none z] at this; cases this
    have s6 : SS K (((e a).set i (.ol ad od kvs m)).set i (.ot m)) σ' G0 H0 B G' (upd H' ad (.dT kvs)) := s'.chgS (List.getElem?_set_self il) fun o S ho hO ⟨e, hS, hl, hd2⟩ => by
      subst e
      subst hS
      refine ⟨⟨ad, kvs, rfl, rfl, upd_same, hd2⟩, fun b hb => upd_ne (by simpa using hb), fun b hb => ?_⟩
      simp at hb; subst hb; rw [upd_same]; exact ⟨Option.some_ne_none _, id⟩
    rw [back] at s6
    exact ⟨⟨k2, by omega⟩, k2, p σ' G' _ s6⟩
/-! #### {k: v for ..}, the values data -/
def dcW (fk fv : D → Option D) : List D → WK → Option WK
  | [], m => some m
  | x :: xs, m => ((fk x).bind asI).bind fun k => (fv x).bind fun v => dcW fk fv xs (putM m k v)
def dcWZ (fk fv : D → Option D) (xs : List D) : Option WK := if xs.length ≤ sizeLine then dcW fk fv xs [] else none
theorem ds_setDw {i j : Nat} {wi : TI} {tk tv : TE} {vs : List Nat} {rI : Option (List D)} {fk fv : D → Option D}
    (hi : DI K (noOw env) wi rI) (hk : ∀ x, DV K ((wipeE (noOw env) vs).set j (.sh x)) tk (fk x)) (hv : ∀ x, DV K ((wipeE (noOw env) vs).set j (.sh x)) tv (fv x)) (hts : j ∈ vs := by decide) :
    DS K M env (tAsg (tDc wi (gName j) tYes tk tv vs) (gName i)) (fun m => env.set i (.wk m)) eb (toO (rI.bind (dcWZ fk fv))) := fun σ G0 H0 B G H T s q => by
  cases e : rI.bind (dcWZ fk fv) with
  | none => rw [e] at q; exact q.elim
  | some out =>
    rw [e] at q
    obtain ⟨ds, e1, e2⟩ := bind_some e
    unfold dcWZ at e2
    by_cases hz : ds.length ≤ sizeLine
    · rw [if_pos hz] at e2
      refine hi σ G H _ ds s.shd s.ext.gh e1 fun J G1 H1 E1 ok => ?_
      intro Dd hD
      have gD : G1 Dd = none := E1.gh.free hD
      refine ⟨fun i m H2 => i ≤ ds.length ∧ m = ds.length - i ∧ ∃ (G2 : Hp) (kvs : List (Key × V)) (acc : WK), Ext G1 H1 G2 H2 ∧ H2 Dd = some (.dK kvs) ∧ KvA K G2 kI kvs acc ∧ G2 Dd = none ∧ acc.length ≤ i ∧ dcW fk fv (ds.drop i) acc = some out,
        ⟨ds.length, Nat.zero_le _, by omega, G1, [], [], Ext.own E1.gh hD, upd_same, .nil, gD, Nat.le_refl _, by simpa using e2⟩, ?_⟩
      rintro n m H2 ⟨hi2, rfl, G2, kvs, acc, E2, hacc, hkv, gD2, hl, hr⟩
      by_cases hlt : n < ds.length
      · right
        refine ⟨ok.go G2 H2 n E2.gg E2.gh hlt, fun H3 => ∃ m', m' < ds.length - n ∧ (n + 1 ≤ ds.length ∧ m' = ds.length - (n + 1) ∧ ∃ (G2 : Hp) (kvs : List (Key × V)) (acc : WK), Ext G1 H1 G2 H3 ∧ H3 Dd = some (.dK kvs) ∧ KvA K G2 kI kvs acc ∧ G2 Dd = none ∧ acc.length ≤ n + 1 ∧ dcW fk fv (ds.drop (n + 1)) acc = some out), fun H3 h => h, fun x H3 hy => ?_⟩
        have hget : ds[n]? = some ds[n] := List.getElem?_eq_getElem hlt
        obtain ⟨G3, E3, hx⟩ := ok.yl G2 H2 n x H3 ds[n] E2.gg E2.gh hget hy
        rw [drop_cons hlt] at hr
        unfold dcW at hr
        obtain ⟨k, ek, hr⟩ := bind_some hr
        obtain ⟨z, ez, hr⟩ := bind_some hr
        obtain ⟨dk, ek, e5⟩ := bind_some ek
        have := asI_some e5; subst this
        have hH3 : H3 Dd = some (.dK kvs) := E3.hh _ _ hacc
        have gD3 : G3 Dd = none := E3.nwO (ow_dK hacc) gD2
        refine bg_name (K := K) j (wipeE (noOw env) vs) _ (L2.wipe σ vs) G3 H3 x ds[n] _ ((s.shd.wipe vs).mono ((E1.gg.trans E2.gg).trans E3.gg)) E3.gh hx rfl fun σ2 s2 w2 _ => ?_
        refine ⟨(w2 vs (by intro i hi; simp at hi; subst hi; exact hts)).trans wipe_idem, ?_⟩
        unfold tYes
        dsimp only
        rw [if_pos rfl]
        refine hk ds[n] σ2 G3 H3 _ _ s2 E3.gh ek fun v G4 H4 E4 h4 => ?_
        cases h4
        have hH4 := E4.hh _ _ hH3
        have gD4 : G4 Dd = none := E4.nwO (ow_dK hH3) gD3
        refine hv ds[n] σ2 G4 H4 _ _ (s2.mono E4.gg) E4.gh ez fun v G5 H5 E5 h5 => ?_
        have hH5 := E5.hh _ _ hH4
        have gD5 : G5 Dd = none := E5.nwO (ow_dK hH4) gD4
        have E25 := (E3.trans E4).trans E5
        have E15 := E2.trans E25
        have hln := hkv.len
        refine ⟨kvs, .inl k, rfl, hH5, by omega, ds.length - (n + 1), by omega, by omega, rfl, G5, putK kvs (kI k) v, putM acc k z, ?_, upd_same, (hkv.mono E25.gg).put kI_inj h5, gD5, by have := putM_len acc k z; omega, hr⟩
        refine ⟨E15.gg, fun bq o eq => ?_, fun bq o eq => ?_, E15.nw⟩
        · have : bq ≠ Dd := ne_of_none eq hD
          rw [upd_ne this]; exact E15.hh bq o eq
        · have : bq ≠ Dd := ne_of_none eq gD5
          rw [upd_ne this]; exact E15.gh bq o eq
      · left
        have ei : n = ds.length := by omega
        subst ei
        rw [List.drop_length] at hr
        cases hr
        have EE : Ext G H (upd G2 Dd (.dK kvs)) H2 := by
          have E12 := E1.trans E2
          refine ⟨E12.gg.trans (same_upd gD2), E12.hh, fun b o eb => ?_, fun a ha ga => ?_⟩
          · by_cases z : b = Dd
            · subst z; rw [upd_same] at eb; rw [hacc]; exact eb
            · rw [upd_ne z] at eb; exact E12.gh b o eb
          · have z : a ≠ Dd := fun z => ha (by rw [z]; exact E1.hh.free hD)
            rw [upd_ne z]; exact E12.nw a ha ga
        refine ⟨ok.stop G2 H2 _ E2.gg E2.gh (Nat.le_refl _), q _ _ H2 (s.put EE (sl := .wk out) (S := []) i ⟨rfl, Dd, kvs, rfl, .inl upd_same, hkv.mono (same_upd gD2)⟩ fun a ha => by cases ha)⟩
    · rw [if_neg hz] at e2; cases e2
end
/-! #### defs that hand back a dict; defs that are handed one -/
def spR (R : RR) (K : PySem.W.Frag) (m : List D → Option D) : Sp := fun vs H Q _ => ∃ (G : Hp) (ds : List D) (d : D), Same G H ∧ DpAll K G vs ds ∧ m ds = some d ∧ ∀ v G' H', R G H G' H' v d → Q v H'
theorem fn_bodyR {R : RR} {K : PySem.W.Frag} {m : List D → Option D} {N : List Str} {t : TS} {vs : List V} {H : Hp} {Q : VK} {E : XK} (h : spR R K m vs H Q E) (hn : ∀ ds d, m ds = some d → ds.length ≤ N.length)
    (hb : ∀ ds d, m ds = some d → ∃ (β : Type) (eb : β → En) (en : Empty → En) (o : Out Empty β), DS K (.no R) (ds.map Sl.sh ++ List.replicate (N.length - ds.length) Sl.un) t en eb o ∧ o.run = some d) :
    t { nx := fun _ H' => Q .non H', rt := Q } (L2.start N vs) H := by
  obtain ⟨G, ds, d, g, ha, e, q⟩ := h
  obtain ⟨β, eb, en, o, hd, ho⟩ := hb ds d e
  refine hd _ G H G G H _ (start_env g ha (hn ds d e)) ?_
  cases o with
  | nx a => cases a
  | rt d' => cases ho; exact fun v G' H' r => q v G' H' r
  | bk b => cases ho
  | ct b => cases ho
  | no => cases ho
  | xc x => cases ho
structure DfR (R : PySem.W.Frag → RR) (P : Program) (w : World) (K : PySem.W.Frag) (mg : Str → Option Value) (base : Heap) (k : Nat) (x : Str) (ps : List Str) (m : List D → Option D) : Prop where
  ex : ∃ f fd, mg x = some (.ref f) ∧ PySem.W.keepIn K (.ref f) = true ∧ Binds K fd ps [] ∧ FnOk P w K mg base CX0 k f fd ps (spR (R K) K m)
def RtK (K : PySem.W.Frag) : RR := fun G0 H0 G H v d => Ext G0 H0 G H ∧ ∃ m, d = encK m ∧ VK' m K G (some v)
def RtT (K : PySem.W.Frag) : RR := fun G0 H0 G H v d => Ext G0 H0 G H ∧ ∃ m, d = encT m ∧ VT' m K G (some v)
section
variable {P : Program} {w : World} {K : PySem.W.Frag} {mg : Str → Option Value} {base : Heap} {x qual : Str} {st : Stmt} {f : Addr} {fd : FuncData} {N ps : List Str} {k : Nat}
theorem dfR_mk {R : PySem.W.Frag → RR} {m : List D → Option D} (F : Fun K x qual st f fd) (S : FnScope N ps (defScope st)) (hm : mg x = some (.ref f)) (hb : Binds K fd ps []) (hl : ∀ ds d, m ds = some d → ds.length = ps.length) (hN : ps.length ≤ N.length)
    (body : ∀ (cdv : Value) (A : Around) (outer : List Env) (s : Shared) (H : Hp) (E : XK), Room k (A.deeper (envOfC qual (defScope st) s.heap.objs.size f cdv)) →
      ∃ t, PSs (cxOf CX0 P w K mg base N qual (defScope st) f cdv A outer s H E).nox (defBody st) t ∧
        ∀ ds d, m ds = some d → ∃ (β : Type) (eb : β → En) (en : Empty → En) (o : Out Empty β), DS K (.no (R K)) (env0 N.length ds) t en eb o ∧ o.run = some d) : DfR R P w K mg base (k + 1) x ps m := by
  refine ⟨f, fd, hm, F.kp, hb, ?_⟩
  refine F.ok S (fun vs H Q E h => ?_) fun cdv A outer s H vs Q E hr h => ?_
  · obtain ⟨G, ds, d, _, ha, e, _⟩ := h
    rw [dpa_len ha]; exact hl ds d e
  · obtain ⟨t, h1, h2⟩ := body cdv A outer s H E hr
    exact ⟨t, h1, fn_bodyR h (fun ds d e => by rw [hl ds d e]; exact hN) h2⟩
end
theorem kDfR {X : Cx} (K : PySem.W.Frag) {R : PySem.W.Frag → RR} {k : Nat} {x : Str} {ps : List Str} {e : Expr} {es : List Expr} {t : TA} {p pos : Pos} {m : List D → Option D} {P : Program} {w : World} {mg : Str → Option Value} {base : Heap} (d : DfR R P w K mg base k x ps m) (hr : Room k X.A) (hg : Gl X x) (ha : PA X (e :: es) t)
    (h1 : X.prog = P := by rfl) (h2 : X.w = w := by rfl) (h3 : X.K = K := by rfl) (h4 : X.mg = mg := by rfl) (h5 : X.base = base := by rfl) (hdb : (x == ("__debug__" : Str)) = false := by decide)
    (he : starEach (e :: es) X.env = (false, eval e X.env) :: starEach es X.env := by rfl) (hpl : (backTo pos (starEach es X.env)).any (·.1) = false := by rfl) :
    PE X (.Call (.Name x p) (e :: es) [] pos) (tCall (spR (R K) K m) [] E0 t) := by
  subst h1; subst h2; subst h3; subst h4; subst h5
  obtain ⟨f, fd, h1, h2, h3, h4⟩ := d.ex
  exact pe_call h4 hr hg h1 h2 h3 .nil pass0 ha hdb he hpl
/-- arguments: data, or (flag true) a dict of data -/
inductive DpGs (K : PySem.W.Frag) (G : Hp) : List Bool → List V → List D → Prop
  | nil : DpGs K G [] [] []
  | cons {v : V} {d : D} {fl : List Bool} {vs : List V} {ds : List D} : Dp K G v d → DpGs K G fl vs ds → DpGs K G (false :: fl) (v :: vs) (d :: ds)
  | wk {v : V} {m : WK} {fl : List Bool} {vs : List V} {ds : List D} : VK' m K G (some v) → DpGs K G fl vs ds → DpGs K G (true :: fl) (v :: vs) (encK m :: ds)
def slotG : Bool → D → Sl
  | false, d => .sh d
  | true, d => match asK d with
    | some m => .wk m
    | none => .un
theorem slotG_k {d : D} {m : WK} (h : asK d = some m) : slotG true d = .wk m := by
  show (match asK d with | some m => Sl.wk m | none => .un) = _
  rw [h]
theorem DpGs.lenV {K : PySem.W.Frag} {G : Hp} : ∀ {fl : List Bool} {vs : List V} {ds : List D}, DpGs K G fl vs ds → vs.length = ds.length
  | _, _, _, .nil => rfl
  | _, _, _, .cons _ t => congrArg (· + 1) (DpGs.lenV t)
  | _, _, _, .wk _ t => congrArg (· + 1) (DpGs.lenV t)
theorem DpGs.lenF {K : PySem.W.Frag} {G : Hp} : ∀ {fl : List Bool} {vs : List V} {ds : List D}, DpGs K G fl vs ds → fl.length = ds.length
  | _, _, _, .nil => rfl
  | _, _, _, .cons _ t => congrArg (· + 1) (DpGs.lenF t)
  | _, _, _, .wk _ t => congrArg (· + 1) (DpGs.lenF t)
theorem DpGs.get {K : PySem.W.Frag} {G : Hp} : ∀ {fl : List Bool} {vs : List V} {ds : List D} {i : Nat} {s : Sl}, DpGs K G fl vs ds → (List.zipWith slotG fl ds)[i]? = some s → ∃ v, vs[i]? = some v ∧ s.sm = true ∧ s.v K G (some v)
  | _, _, _, _, _, .nil, e => by simp at e
  | _, _, _, 0, _, .cons (v := v) r _, e => by simp at e; subst e; exact ⟨_, rfl, rfl, v, rfl, r⟩
  | _, _, _, 0, _, .wk (m := m) r _, e => by simp at e; subst e; rw [slotG_k (asK_enc m)]; exact ⟨_, rfl, rfl, r⟩
  | _, _, _, i + 1, s, .cons _ t, e => by
    obtain ⟨v, h1, h2⟩ := DpGs.get (i := i) (s := s) t (by simpa using e)
    exact ⟨v, by simpa using h1, h2⟩
  | _, _, _, i + 1, s, .wk _ t, e => by
    obtain ⟨v, h1, h2⟩ := DpGs.get (i := i) (s := s) t (by simpa using e)
    exact ⟨v, by simpa using h1, h2⟩
def envG (n : Nat) (fl : List Bool) (ds : List D) : En := List.zipWith slotG fl ds ++ List.replicate (n - ds.length) Sl.un
theorem start_envG {K : PySem.W.Frag} {G H : Hp} {fl : List Bool} {vs : List V} {ds : List D} {N : List Str} (g : Same G H) (h : DpGs K G fl vs ds) (hn : ds.length ≤ N.length) :
    SS K (envG N.length fl ds) (L2.start N vs) G H G G H := by
  have hl := h.lenV
  have hf := h.lenF
  have hz : (List.zipWith slotG fl ds).length = ds.length := by rw [List.length_zipWith, hf, Nat.min_self]
  have nh : ∀ (i : Nat) (s : Sl), (envG N.length fl ds)[i]? = some s → (List.zipWith slotG fl ds)[i]? = some s ∨ s = .un := fun i s hs => by
    unfold envG at hs
    rcases Nat.lt_or_ge i (List.zipWith slotG fl ds).length with z | z
    · rw [List.getElem?_append_left z] at hs
      exact .inl hs
    · rw [List.getElem?_append_right z] at hs
      have := List.mem_of_getElem? hs
      exact .inr (List.eq_of_mem_replicate this)
  have hel : (envG N.length fl ds).length = N.length := by
    unfold envG; rw [List.length_append, hz, List.length_replicate]; omega
  have hsl : (L2.start N vs).length = N.length := by unfold L2.start; simp [hl]; omega
  refine ⟨Ext.refl g, Same.refl G, by rw [hel, hsl], fun _ => [], fun i s hs => ?_, fun i a h => absurd h List.not_mem_nil, fun i j a _ h => absurd h List.not_mem_nil⟩
  have hi : i < (L2.start N vs).length := by
    rcases Nat.lt_or_ge i (envG N.length fl ds).length with z | z
    · rw [hsl, ← hel]; exact z
    · rw [List.getElem?_eq_none z] at hs; cases hs
  rcases nh i _ hs with e | rfl
  · obtain ⟨v, hv, r1, r2⟩ := h.get e
    refine ⟨some v, ?_, (s.pe r1).mpr ⟨rfl, r2⟩⟩
    have hi : i < vs.length := by
      rcases Nat.lt_or_ge i vs.length with z | z
      · exact z
      · rw [List.getElem?_eq_none z] at hv; cases hv
    unfold L2.start
    rw [List.getElem?_append_left (by simpa using hi), List.getElem?_map, hv]; rfl
  · exact ⟨_, List.getElem?_eq_getElem hi, rfl, trivial⟩
def spG (K : PySem.W.Frag) (fl : List Bool) (m : List D → Option D) : Sp := fun vs H Q _ => ∃ (G : Hp) (ds : List D) (d : D), Same G H ∧ DpGs K G fl vs ds ∧ m ds = some d ∧ ∀ v G' H', Ext G H G' H' → Dp K G' v d → Q v H'
structure DfG (P : Program) (w : World) (K : PySem.W.Frag) (mg : Str → Option Value) (base : Heap) (k : Nat) (x : Str) (ps : List Str) (fl : List Bool) (m : List D → Option D) : Prop where
  ex : ∃ f fd, mg x = some (.ref f) ∧ PySem.W.keepIn K (.ref f) = true ∧ Binds K fd ps [] ∧ FnOk P w K mg base CX0 k f fd ps (spG K fl m)
section
variable {P : Program} {w : World} {K : PySem.W.Frag} {mg : Str → Option Value} {base : Heap} {x qual : Str} {st : Stmt} {f : Addr} {fd : FuncData} {N ps : List Str} {k : Nat}
theorem dfG_mk {fl : List Bool} {m : List D → Option D} (F : Fun K x qual st f fd) (S : FnScope N ps (defScope st)) (hm : mg x = some (.ref f)) (hb : Binds K fd ps []) (hl : ∀ ds d, m ds = some d → ds.length = ps.length) (hN : ps.length ≤ N.length)
    (body : ∀ (cdv : Value) (A : Around) (outer : List Env) (s : Shared) (H : Hp) (E : XK), Room k (A.deeper (envOfC qual (defScope st) s.heap.objs.size f cdv)) →
      ∃ t, PSs (cxOf CX0 P w K mg base N qual (defScope st) f cdv A outer s H E).nox (defBody st) t ∧
        ∀ ds d, m ds = some d → ∃ (β : Type) (eb : β → En) (α : Type) (en : α → En) (o : Out α β), DS K (.no (RtS K)) (envG N.length fl ds) t en eb o ∧ o.run = some d) : DfG P w K mg base (k + 1) x ps fl m := by
  refine ⟨f, fd, hm, F.kp, hb, ?_⟩
  refine F.ok S (fun vs H Q E h => ?_) fun cdv A outer s H vs Q E hr h => ?_
  · obtain ⟨G, ds, d, _, ha, e, _⟩ := h
    rw [ha.lenV]; exact hl ds d e
  · obtain ⟨t, h1, h2⟩ := body cdv A outer s H E hr
    refine ⟨t, h1, ?_⟩
    obtain ⟨G, ds, d, g, ha, e, q⟩ := h
    obtain ⟨β, eb, α, en, o, hd, ho⟩ := h2 ds d e
    refine hd _ G H G G H _ (start_envG g ha (by rw [hl ds d e]; exact hN)) ?_
    cases o with
    | nx a => cases ho; exact fun σ G' H' s => q .non G' H' s.ext .non
    | rt d' => cases ho; exact fun v G' H' r => q v G' H' r.1 r.2
    | bk b => cases ho
    | ct b => cases ho
    | no => cases ho
    | xc x => cases ho
end
theorem kDfG {X : Cx} (K : PySem.W.Frag) {k : Nat} {x : Str} {ps : List Str} {e : Expr} {es : List Expr} {t : TA} {p pos : Pos} {m : List D → Option D} {P : Program} {w : World} {mg : Str → Option Value} {base : Heap} {fl : List Bool} (d : DfG P w K mg base k x ps fl m) (hr : Room k X.A) (hg : Gl X x) (ha : PA X (e :: es) t)
    (h1 : X.prog = P := by rfl) (h2 : X.w = w := by rfl) (h3 : X.K = K := by rfl) (h4 : X.mg = mg := by rfl) (h5 : X.base = base := by rfl) (hdb : (x == ("__debug__" : Str)) = false := by decide)
    (he : starEach (e :: es) X.env = (false, eval e X.env) :: starEach es X.env := by rfl) (hpl : (backTo pos (starEach es X.env)).any (·.1) = false := by rfl) :
    PE X (.Call (.Name x p) (e :: es) [] pos) (tCall (spG K fl m) [] E0 t) := by
  subst h1; subst h2; subst h3; subst h4; subst h5
  obtain ⟨f, fd, h1, h2, h3, h4⟩ := d.ex
  exact pe_call h4 hr hg h1 h2 h3 .nil pass0 ha hdb he hpl
section
variable {K : PySem.W.Frag} {M : Md} {env : En} {α β : Type} {en : α → En} {eb : β → En} {ta te : TE} {tA : TA} {ra : Option D} {rA : Option (List D)}
/-- arguments, dicts among them -/
def DAG (K : PySem.W.Frag) (env : En) (fl : List Bool) (t : TA) (r : Option (List D)) : Prop := ∀ σ (G H : Hp) (Q : List V → Hp → Prop) ds, SE K env σ G → Same G H → r = some ds → (∀ vs G' H', Ext G H G' H' → DpGs K G' fl vs ds → Q vs H') → t σ H Q
theorem dg_nil : DAG K env [] tNil (some []) := fun σ G H Q x _ g z q => by
  cases z; exact q [] G H (Ext.refl g) .nil
theorem dg_cons {fl : List Bool} (ha : DV K env ta ra) (hr : DAG K env fl tA rA) : DAG K env (false :: fl) (tCons ta tA) (consO ra rA) := fun σ G H Q d s g z q => by
  obtain ⟨x, ex, z⟩ := bind_some z
  obtain ⟨xs, exs, z⟩ := bind_some z
  cases z
  refine ha σ G H _ x s g ex fun v G1 H1 E1 h1 => ?_
  refine hr σ G1 H1 _ xs (s.mono E1.gg) E1.gh exs fun vs G2 H2 E2 h2 => ?_
  exact q (v :: vs) G2 H2 (E1.trans E2) (.cons (dp_mono E2.gg x v h1) h2)
theorem dg_wk {fl : List Bool} (i : Nat) {m : WK} (hr : DAG K env fl tA rA) (h : env[i]? = some (Sl.wk m) := by rfl) : DAG K env (true :: fl) (tCons (tVar i) tA) (consO (some (encK m)) rA) := fun σ G H Q d s g z q => by
  obtain ⟨x, ex, z⟩ := bind_some z
  obtain ⟨xs, exs, z⟩ := bind_some z
  cases ex
  cases z
  obtain ⟨o, h1, a, kvs, rfl, h2, h3⟩ := s.at' i _ h
  refine ⟨.ref a, h1, hr σ G H _ xs s g exs fun vs G2 H2 E2 h2' => ?_⟩
  exact q _ G2 H2 E2 (.wk ((Sl.wk m).vm E2.gg ⟨a, kvs, rfl, h2, h3⟩) h2')
theorem dv_callG {fl : List Bool} {m : List D → Option D} {E : XK} (h : DAG K env fl tA rA) : DV K env (tCall (spG K fl m) [] E tA) (rA.bind m) := fun σ G H Q d s g z q => by
  obtain ⟨ds, e1, e2⟩ := bind_some z
  refine h σ G H _ ds s g e1 fun vs G1 H1 E1 h1 => ?_
  refine ⟨G1, ds, d, E1.gh, by rw [List.append_nil]; exact h1, e2, fun v G' H' E hd => q v G' H' (E1.trans E) hd⟩
/-- x = f(..), f hands back a dict -/
theorem ds_setRK {i : Nat} {m : List D → Option D} {E : XK} (h : DA K (noOw env) tA rA) : DS K M env (tAsg (tCall (spR (RtK K) K m) [] E tA) (gName i)) (fun mm => env.set i (.wk mm)) eb (toO ((rA.bind m).bind asK)) := fun σ G0 H0 B G H T s q => by
  cases e : (rA.bind m).bind asK with
  | none => rw [e] at q; exact q.elim
  | some mm =>
    rw [e] at q
    obtain ⟨d, e1, e2⟩ := bind_some e
    obtain ⟨ds, e3, e4⟩ := bind_some e1
    refine h σ G H _ ds s.shd s.ext.gh e3 fun vs G1 H1 E1 h1 => ?_
    refine ⟨G1, ds, d, E1.gh, by rw [List.append_nil]; exact h1, e4, ?_⟩
    rintro v G' H' ⟨E', m2, rfl, hv⟩
    rw [asK_enc] at e2; cases e2
    exact q _ G' H' (s.put (E1.trans E') (sl := .wk mm) (S := []) i ⟨rfl, hv⟩ fun a ha => by cases ha)
theorem ds_setRT {i : Nat} {m : List D → Option D} {E : XK} (h : DA K (noOw env) tA rA) : DS K M env (tAsg (tCall (spR (RtT K) K m) [] E tA) (gName i)) (fun mm => env.set i (.st mm)) eb (toO ((rA.bind m).bind asT)) := fun σ G0 H0 B G H T s q => by
  cases e : (rA.bind m).bind asT with
  | none => rw [e] at q; exact q.elim
  | some mm =>
    rw [e] at q
    obtain ⟨d, e1, e2⟩ := bind_some e
    obtain ⟨ds, e3, e4⟩ := bind_some e1
    refine h σ G H _ ds s.shd s.ext.gh e3 fun vs G1 H1 E1 h1 => ?_
    refine ⟨G1, ds, d, E1.gh, by rw [List.append_nil]; exact h1, e4, ?_⟩
    rintro v G' H' ⟨E', m2, rfl, hv⟩
    rw [asT_enc] at e2; cases e2
    exact q _ G' H' (s.put (E1.trans E') (sl := .st mm) (S := []) i ⟨rfl, hv⟩ fun a ha => by cases ha)
theorem ds_retK {i : Nat} {m : WK} (hi : env[i]? = some (Sl.wk m)) (hM : M.R = RtK K := by rfl) : DS K M env (tRet (tVar i)) en eb (toR (some (encK m)) : Out α β) := fun σ G0 H0 B G H T s q => by
  obtain ⟨F, f1, f2, _⟩ := s.fp
  obtain ⟨o, h1, _, a, kvs, rfl, h2, h3⟩ := f1 i _ hi
  exact ⟨.ref a, h1, q (.ref a) G H (by rw [hM]; exact ⟨s.ext, m, rfl, a, kvs, rfl, h2, h3⟩)⟩
theorem ds_retT {i : Nat} {m : WT} (hi : env[i]? = some (Sl.ot m)) (hM : M.R = RtT K := by rfl) : DS K M env (tRet (tVar i)) en eb (toR (some (encT m)) : Out α β) := fun σ G0 H0 B G H T s q => by
  obtain ⟨F, f1, f2, _⟩ := s.fp
  obtain ⟨o, h1, a, kvs, rfl, hS, h2, h3⟩ := f1 i _ hi
  obtain ⟨g1, g2, _⟩ := f2 i a (by rw [hS]; simp)
  refine ⟨.ref a, h1, q (.ref a) (upd G a (.dT kvs)) H (by
    rw [hM]
    refine ⟨⟨s.ext.gg.trans (same_upd g1), s.ext.hh, fun b o eb => ?_, fun p hp gp => ?_⟩, m, rfl, a, kvs, rfl, .inl upd_same, h3.mono (same_upd g1)⟩
    · by_cases z : b = a
      · subst z; rw [upd_same] at eb; rw [h2]; exact eb
      · rw [upd_ne z] at eb; exact s.ext.gh b o eb
    · have z : p ≠ a := fun z => hp (by rw [z]; exact g2)
      rw [upd_ne z]; exact s.ext.nw p hp gp)⟩
end
end Dl

set_option Elab.async false
set_option linter.all false
set_option maxRecDepth 100000
set_option maxHeartbeats 2000000
namespace Dl
open PySem PySem.Spec PyProof.Rows L2
/-! ### own lists whose items are foreign or new; loops over foreign lists -/
inductive DpE (K : PySem.W.Frag) (H0 G : Hp) : List V → List D → Prop
  | nil : DpE K H0 G [] []
  | fo {v : V} {d : D} {vs : List V} {ds : List D} : Dp K H0 v d → DpE K H0 G vs ds → DpE K H0 G (v :: vs) (d :: ds)
  | nu {v : V} {d : D} {vs : List V} {ds : List D} : Dp K G v d → DpE K H0 G vs ds → DpE K H0 G (v :: vs) (d :: ds)
section
variable {K : PySem.W.Frag} {H0 G G' H : Hp}
theorem DpE.mono (g : Same G G') : ∀ {vs : List V} {ds : List D}, DpE K H0 G vs ds → DpE K H0 G' vs ds
  | _, _, .nil => .nil
  | _, _, .fo h t => .fo h (t.mono g)
  | _, _, .nu h t => .nu (dp_mono g _ _ h) (t.mono g)
theorem DpE.on (h0 : Same H0 H) (g : Same G H) : ∀ {vs : List V} {ds : List D}, DpE K H0 G vs ds → DpAll K H vs ds
  | _, _, .nil => .nil
  | _, _, .fo h t => .cons (dp_mono h0 _ _ h) (t.on h0 g)
  | _, _, .nu h t => .cons (dp_mono g _ _ h) (t.on h0 g)
theorem DpE.len : ∀ {vs : List V} {ds : List D}, DpE K H0 G vs ds → vs.length = ds.length
  | _, _, .nil => rfl
  | _, _, .fo _ t => congrArg (· + 1) t.len
  | _, _, .nu _ t => congrArg (· + 1) t.len
theorem DpE.take : ∀ {vs : List V} {ds : List D} (n : Nat), DpE K H0 G vs ds → DpE K H0 G (vs.take n) (ds.take n)
  | _, _, 0, _ => .nil
  | _, _, _ + 1, .nil => .nil
  | _, _, n + 1, .fo h t => .fo h (t.take n)
  | _, _, n + 1, .nu h t => .nu h (t.take n)
theorem DpE.app : ∀ {vs : List V} {ds : List D} {us : List V} {es : List D}, DpE K H0 G vs ds → DpAll K G us es → DpE K H0 G (vs ++ us) (ds ++ es)
  | _, _, [], _, .nil, .nil => .nil
  | _, _, _ :: _, _, .nil, .cons h t => .nu h (DpE.app .nil t)
  | _, _, _, _, .fo h t, k => .fo h (t.app k)
  | _, _, _, _, .nu h t, k => .nu h (t.app k)
end
def Sl.oz (ds : List D) : Sl where
  sm := false
  v := fun K G o => ∃ v, o = some v ∧ Dp K G v (.list ds)
  p := fun K H0 G H o S => ∃ l xs, o = some (.ref l) ∧ S = [l] ∧ H l = some (.lst xs) ∧ DpE K H0 G xs ds
  vm := fun g ⟨v, e, h⟩ => ⟨v, e, dp_mono g _ v h⟩
  pm := fun g hs _ ⟨l, xs, e, es, hl, h⟩ => ⟨l, xs, e, es, (hs l (by rw [es]; simp)).trans hl, h.mono g⟩
  pv := fun h0 g ⟨l, xs, e, es, hl, h⟩ => ⟨.ref l, e, .lst hl (h.on h0 g)⟩
  pe := fun h => by cases h
def lsO : D → Option (List D)
  | .list ds => some ds
  | _ => none
section
variable {K : PySem.W.Frag} {M : Md} {env : En} {α β : Type} {en : α → En} {eb : β → En} {ta te : TE} {tA : TA} {ra : Option D} {rA : Option (List D)}
theorem dv_varZ (i : Nat) {ds : List D} (h : env[i]? = some (Sl.oz ds) := by rfl) : DV K env (tVar i) (some (.list ds)) := fun σ G H Q x s g z q => by
  cases z
  obtain ⟨o, h1, v, rfl, h2⟩ := s.at' i _ h
  exact ⟨v, h1, q v G H (Ext.refl g) h2⟩
/-- x = [y], y foreign -/
theorem ds_zset {i j : Nat} {d : D} (hj : env[j]? = some (Sl.fo d)) : DS K M env (tAsg (tLst (tCons (tVar j) tNil)) (gName i)) (fun _ : Unit => env.set i (.oz [d])) eb (.nx () : Out Unit β) := fun σ G0 H0 B G H T s q => by
  obtain ⟨F, f1, _, _⟩ := s.fp
  obtain ⟨o, h1, _, v, rfl, h2⟩ := f1 j _ hj
  refine ⟨v, h1, by show 1 ≤ sizeLine; decide, fun p hp => ?_⟩
  refine q _ G _ (s.put (Ext.own s.ext.gh hp) (sl := .oz [d]) (S := [p]) i ⟨p, [v], rfl, rfl, upd_same, .fo h2 .nil⟩ fun a ha => ?_)
  simp at ha; subst ha
  exact ⟨hp, s.ext.gh.free hp, by rw [upd_same]; exact ⟨Option.some_ne_none _, id⟩⟩
/-- x = f(y, zs.pop()), y foreign, f hands back a new list of atoms -/
def callPopZ (m : List D → Option D) (ds : List D) (a : D) : Option (D × List D) := (popO ds).bind fun p => ((m [a, p.1]).bind asL).bind fun es => if es.all atom = true then some (.list es, p.2) else none
theorem ds_zpop {i j n : Nat} {ds : List D} {d : D} {m : List D → Option D} {E : XK} (hj : env[j]? = some (Sl.oz ds)) (hn : env[n]? = some (Sl.fo d)) :
    DS K M env (tAsg (tCall (spL K m) [] E (tCons (tVar n) (tCons (tBM0 K "list" rPop (tVar j)) tNil))) (gName i)) (fun (p : D × List D) => (env.set j (.oz p.2)).set i (.sh p.1)) eb (toO (callPopZ m ds d)) := fun σ G0 H0 B G H T s q => by
  cases e : callPopZ m ds d with
  | none => rw [e] at q; exact q.elim
  | some pr =>
    rw [e] at q
    obtain ⟨p, ep, e⟩ := bind_some e
    obtain ⟨es, ees, e⟩ := bind_some e
    obtain ⟨dd, ed, ees⟩ := bind_some ees
    by_cases hat : es.all atom = true
    · rw [if_pos hat] at e
      cases e
      obtain ⟨z, ez, ep⟩ := bind_some ep
      cases ep
      obtain ⟨F, f1, f2, f3⟩ := s.fp
      obtain ⟨o, h1, _, va, rfl, h2⟩ := f1 n _ hn
      obtain ⟨o2, k1, l, xs, rfl, hS, k2, k3⟩ := f1 j _ hj
      obtain ⟨g1, g2, _⟩ := f2 j l (by rw [hS]; simp)
      have hlen := k3.len
      refine ⟨va, h1, .ref l, k1, Or.inl ⟨rfl, _, Or.inl (Or.inl k2)⟩, ?_⟩
      obtain ⟨v, hv, _⟩ := dpa_get (k3.on s.ext.hh s.ext.gh) ez
      refine ⟨l, xs, v, rfl, rfl, k2, by rw [hlen]; exact hv, ?_⟩
      obtain ⟨GG, hGG⟩ : ∃ GG : Hp, GG = fun b => if b = l then none else H b := ⟨_, rfl⟩
      have gne : ∀ {b : Addr}, b ≠ l → GG b = H b := fun h => by rw [hGG]; exact if_neg h
      have sG : Same GG (upd H l (.lst xs.dropLast)) := fun b u eb => by
        by_cases c : b = l
        · rw [hGG, c] at eb; simp at eb
        · rw [gne c] at eb; rw [upd_ne c]; exact eb
      have s0 : Same H0 GG := fun b u eb => by
        have c : b ≠ l := fun c => by rw [c, g2] at eb; cases eb
        rw [gne c]; exact s.ext.hh b u eb
      have s1 : Same G GG := fun b u eb => by
        have c : b ≠ l := fun c => by rw [c, g1] at eb; cases eb
        rw [gne c]; exact s.ext.gh b u eb
      have hz : Dp K GG v z := dpa_get' (k3.on s0 s1) ez (by rw [hlen] at *; exact hv)
      refine ⟨GG, [d, z], dd, sG, by rw [List.append_nil]; exact .cons (dp_mono s0 _ _ h2) (.cons hz .nil), ed, ?_⟩
      rintro u G' H' ⟨E', p, ys, es', rfl, rfl, hp, gp, hl, ha⟩
      cases ees
      have s2 : SS K (env.set j (.oz ds.dropLast)) σ G0 H0 B G (upd H l (.lst xs.dropLast)) := s.chgS hj fun o S ho hO ⟨l2, xs2, e2, hS2, hl2, hd2⟩ => by
        subst e2
        rw [k1] at ho; cases ho
        rw [k2] at hl2; cases hl2
        subst hS2
        refine ⟨⟨l, _, rfl, rfl, upd_same, by rw [List.dropLast_eq_take, List.dropLast_eq_take, hlen]; exact hd2.take _⟩, fun b hb => upd_ne (by simpa using hb), fun b hb => ?_⟩
        simp at hb; subst hb; exact ow_lst upd_same
      have gp0 : G p = none := s2.ext.gh.free hp
      have EE : Ext G (upd H l (.lst xs.dropLast)) (upd G p (.lst ys)) H' := by
        refine ⟨same_upd gp0, E'.hh, fun b o eb => ?_, fun a ha ga => ?_⟩
        · by_cases c : b = p
          · subst c; rw [upd_same] at eb; rw [hl]; exact eb
          · rw [upd_ne c] at eb; exact E'.hh b o (s2.ext.gh b o eb)
        · have c : a ≠ p := fun c => ha (by rw [c]; exact hp)
          rw [upd_ne c]; exact .inl ga
      exact q _ _ H' ((s2.ext' EE).set i (.lst upd_same (dpa_atom hat ha)))
    · rw [if_neg hat] at e; cases e
/-- xs.extend(ys), ys shared -/
theorem ds_zext {i j : Nat} {ds : List D} {d : D} (hi : env[i]? = some (Sl.oz ds)) (hj : env[j]? = some (Sl.sh d)) :
    DS K M env (tDrop (tBM K "list" rExtend (tVar i) (tCons (tVar j) tNil))) (fun zs => env.set i (.oz zs)) eb (toO ((lsO d).bind (extL ds))) := fun σ G0 H0 B G H T s q => by
  cases d with
  | list es =>
    obtain ⟨F, f1, f2, f3⟩ := s.fp
    obtain ⟨o, h1, _, v, rfl, h2⟩ := f1 j _ hj
    obtain ⟨o2, k1, l, xs, rfl, hS, k2, k3⟩ := f1 i _ hi
    cases h2 with
    | lst hs ha =>
      rename_i a ys
      have q : Post K M (fun zs => env.set i (.oz zs)) eb T G0 H0 B (toO (extL ds es) : Out (List D) β) := q
      unfold extL at q
      by_cases hz : ds.length + es.length ≤ sizeLine
      · rw [if_pos hz] at q
        have l1 := k3.len
        have l2 := dpa_len ha
        refine ⟨.ref l, k1, Or.inl ⟨rfl, _, Or.inl (Or.inl k2)⟩, .ref a, h1, l, a, xs, ys, rfl, rfl, k2, s.ext.gh _ _ hs, by omega, q σ G _ (s.chgS hi fun o S ho hO ⟨l2, xs2, e2, hS2, hl2, hd2⟩ => ?_)⟩
        subst e2
        rw [k1] at ho; cases ho
        rw [k2] at hl2; cases hl2
        subst hS2
        refine ⟨⟨l, _, rfl, rfl, upd_same, hd2.app ha⟩, fun b hb => upd_ne (by simpa using hb), fun b hb => ?_⟩
        simp at hb; subst hb; exact ow_lst upd_same
      · rw [if_neg hz] at q; exact q.elim
  | _ => exact q.elim
/-- x = f(..), f hands back a dict of nobody's, arguments foreign -/
theorem ds_setMF {i : Nat} {m : List D → Option D} {E : XK} (h : DA K env tA rA) : DS K M env (tAsg (tCall (spM K m) [] E tA) (gName i)) (fun mm => env.set i (.od mm)) eb (toO ((rA.bind m).bind asM)) := fun σ G0 H0 B G H T s q => by
  cases e : (rA.bind m).bind asM with
  | none => rw [e] at q; exact q.elim
  | some mm =>
    rw [e] at q
    obtain ⟨d, e1, e2⟩ := bind_some e
    obtain ⟨ds, e3, e4⟩ := bind_some e1
    refine h σ H H _ ds s.all (Same.refl H) e3 fun vs G1 H1 E1 h1 => ?_
    refine ⟨G1, ds, d, E1.gh, by rw [List.append_nil]; exact h1, e4, ?_⟩
    rintro v G' H' ⟨E', p, m2, rfl, rfl, hp, gp, hl⟩
    rw [asM_dD] at e2; cases e2
    have HH : Same H H' := E1.hh.trans E'.hh
    refine q _ G H' (s.put ⟨Same.refl G, HH, s.ext.gh.trans HH, fun _ _ z => .inl z⟩ (sl := .od mm) (S := [p]) i ⟨p, rfl, rfl, hl⟩ fun a ha => ?_)
    simp at ha; subst ha
    have hn := E1.hh.free hp
    exact ⟨hn, s.ext.gh.free hn, ow_dK hl⟩
/-- for x in a foreign list -/
theorem ds_forFo {n j : Nat} {d : D} {tb : TS} {e : α → En} {body : α → D → Out α α} {a0 : α}
    (hn : ∀ a, (e a)[n]? = some (Sl.fo d)) (h0 : Le (e a0) env) (hb : ∀ a x, DS K M ((e a).set j (.fo x)) tb e e (body a x)) :
    DS K M env (tFor (iAny K (tVar n)) (gName j) tb) e eb (forR body (lsO d) a0) := fun σ G0 H0 B G H T s q => by
  cases d with
  | list ds =>
    obtain ⟨G2, s2, g2⟩ := s.weak h0
    obtain ⟨F, f1, _, _⟩ := s2.fp
    obtain ⟨o, h1, _, v, rfl, h2⟩ := f1 n _ (hn a0)
    cases h2 with
    | lst hs ha =>
      rename_i p xs
      have hlen := dpa_len ha
      refine .inl ⟨.ref p, h1, p, rfl, ⟨xs, .inl (.inl (s.ext.hh _ _ hs))⟩, ?_⟩
      refine ⟨fun i m σ' H' => i ≤ ds.length ∧ m = ds.length - i ∧ ∃ (a : α) (G' : Hp), SS K (e a) σ' G0 H0 B G' H' ∧ Post K M e eb T G0 H0 B (forO body (ds.drop i) a : Out α β),
        ⟨ds.length, Nat.zero_le _, by omega, a0, G2, s2, by rw [List.drop_zero]; exact q⟩, ?_⟩
      rintro i m σ' H' ⟨hi', rfl, a, G', s', p'⟩
      have hp' : H' p = some (.lst xs) := s'.ext.hh _ _ hs
      by_cases hlt : i < ds.length
      · right
        have hltx : i < xs.length := by omega
        refine ⟨⟨xs, xs[i], .inl (.inl hp'), List.getElem?_eq_getElem hltx⟩, fun σ'' H'' => ∃ m', m' < ds.length - i ∧ (i + 1 ≤ ds.length ∧ m' = ds.length - (i + 1) ∧ ∃ (a : α) (G' : Hp), SS K (e a) σ'' G0 H0 B G' H'' ∧ Post K M e eb T G0 H0 B (forO body (ds.drop (i + 1)) a : Out α β)), fun σ'' H'' h => h, fun x H3 hy => ?_⟩
        obtain ⟨rfl, hx⟩ := hy
        have ex := hx xs (.inl (.inl hp'))
        have dx : Dp K H0 x ds[i] := dpa_get' ha (List.getElem?_eq_getElem hlt) ex
        rw [drop_cons hlt] at p'
        unfold forO at p'
        have s4 := s'.put (Ext.refl s'.ext.gh) (sl := .fo ds[i]) (o := some x) (S := []) j ⟨rfl, x, rfl, dx⟩ fun a ha => by cases ha
        have s5 := s4.base (Same.refl _)
        refine hb a ds[i] _ G0 H0 G' G' H3 _ s5 ?_
        have gB : ∀ {G6 : Hp}, Same G' G6 → Same B G6 := fun z => s4.bg.trans z
        revert p'
        cases body a ds[i] with
        | nx c => exact fun p σ6 G6 H6 s6 => ⟨_, by omega, hlt, rfl, c, G6, s6.base (gB s6.bg), p⟩
        | ct c => exact fun p σ6 G6 H6 s6 => ⟨_, by omega, hlt, rfl, c, G6, s6.base (gB s6.bg), p⟩
        | bk c => exact fun p σ6 G6 H6 s6 => p σ6 G6 H6 (s6.base (gB s6.bg))
        | rt d => exact fun p => p
        | no => exact fun p => p
        | xc x => exact fun p σ6 G6 H6 cls dd s6 r6 => p σ6 G6 H6 cls dd (s6.base (gB s6.bg)) r6
      · left
        have ei : i = ds.length := by omega
        subst ei
        rw [List.drop_length] at p'
        exact ⟨⟨xs, .inl (.inl hp'), by omega⟩, p' σ' G' H' s'⟩
  | _ => exact q.elim
end
end Dl

set_option Elab.async false
set_option linter.all false
set_option maxRecDepth 100000
set_option maxHeartbeats 2000000
namespace Dl
open PySem PySem.Spec PyProof.Rows L2
/-! ### new lists that stand apart from what is in them; defs that raise and hand back such -/
/-- a pair of a text and a list whose items stand apart from it; or data without a list -/
def NuT (K : PySem.W.Frag) (H : Hp) (S : List Addr) (v : V) (d : D) : Prop :=
  (∃ b s p xs ds S', v = .ref b ∧ d = .tuple [.str s, .list ds] ∧ SqT K H b [.str s, .ref p] ∧ p ∈ S ∧ H p = some (.lst xs) ∧ DpNs K H S' xs ds ∧ p ∉ S' ∧ ∀ a ∈ S', a ∈ S) ∨ (flat d = true ∧ Dp K H v d)
theorem sqt_at {K : PySem.W.Frag} {H H' : Hp} {a : Addr} {xs : List V} (h2 : ∀ a, isTp (H a) → H' a = H a) (hs : SqT K H a xs) : SqT K H' a xs := by
  rcases hs with hs | hs
  · exact .inl (rd_eq (h2 _ (rd_tup hs)) hs)
  · exact .inr hs
theorem NuT.at {K : PySem.W.Frag} {H H' : Hp} {S : List Addr} {v : V} {d : D} (h : NuT K H S v d) (h1 : ∀ a ∈ S, H' a = H a) (h2 : ∀ a, isTp (H a) → H' a = H a) : NuT K H' S v d := by
  rcases h with ⟨b, s, p, xs, ds, S', e1, e2, h3, h4, h5, h6, h7, h8⟩ | ⟨e, h⟩
  · exact .inl ⟨b, s, p, xs, ds, S', e1, e2, sqt_at h2 h3, h4, (h1 p h4).trans h5, DpNs.at' (fun a ha => ⟨ha, h1 a (h8 a ha)⟩) h2 ds xs h6, h7, h8⟩
  · exact .inr ⟨e, dp_ft h2 d v e h⟩
theorem NuT.on {K : PySem.W.Frag} {H : Hp} {S : List Addr} {v : V} {d : D} (h : NuT K H S v d) : Dp K H v d := by
  rcases h with ⟨b, s, p, xs, ds, S', rfl, rfl, h3, h4, h5, h6, h7, h8⟩ | ⟨e, h⟩
  · exact .tup h3 (.cons (.str s) (.cons (.lst h5 h6.on) .nil))
  · exact h
def Sl.nt (d : D) : Sl where
  sm := false
  v := fun K G o => ∃ v, o = some v ∧ Dp K G v d
  p := fun K _ _ H o S => ∃ v, o = some v ∧ NuT K H S v d ∧ ∀ a ∈ S, Lst (H a)
  vm := fun g ⟨v, e, h⟩ => ⟨v, e, dp_mono g _ v h⟩
  pm := fun _ hs ht ⟨v, e, h, k⟩ => ⟨v, e, h.at hs ht, fun a ha => by rw [hs a ha]; exact k a ha⟩
  pv := fun _ _ ⟨v, e, h, _⟩ => ⟨v, e, h.on⟩
  pe := fun h => by cases h
def RtNT (K : PySem.W.Frag) : RR := fun _ H0 _ H v d => Same H0 H ∧ ∃ S, (∀ a ∈ S, H0 a = none ∧ Lst (H a)) ∧ NuT K H S v d
def spT (K : PySem.W.Frag) (m : List D → Option D) : Sp := fun vs H Q _ => ∃ (ds : List D) (d : D), DpAll K H vs ds ∧ m ds = some d ∧ ∀ v S H', Same H H' → (∀ a ∈ S, H a = none ∧ Lst (H' a)) → NuT K H' S v d → Q v H'
structure DfT (P : Program) (w : World) (K : PySem.W.Frag) (mg : Str → Option Value) (base : Heap) (k : Nat) (x : Str) (ps : List Str) (m : List D → Option D) : Prop where
  ex : ∃ f fd, mg x = some (.ref f) ∧ PySem.W.keepIn K (.ref f) = true ∧ Binds K fd ps [] ∧ FnOk P w K mg base CX0 k f fd ps (spT K m)
/-- what a def promises that may raise, or hands back a new list apart from its items, all new -/
def spXL (K : PySem.W.Frag) (mg : Str → Option Value) (FN : Str → List Str) (m : List D → Option Rs) : Sp := fun vs H Q E => ∃ (ds : List D) (r : Rs), DpAll K H vs ds ∧ m ds = some r ∧
  (∀ d, r = .ok d → ∀ p xs es S H', d = .list es → Same H H' → H p = none → (∀ a ∈ S, H a = none ∧ Lst (H' a)) → p ∉ S → H' p = some (.lst xs) → DpNs K H' S xs es → Q (.ref p) H') ∧ ∀ x, r = .xc x → ∀ cls dd G' H', Same H H' → Same G' H' → XR K mg FN G' cls dd x → E cls dd H'
structure DfXL (P : Program) (w : World) (K : PySem.W.Frag) (mg : Str → Option Value) (FN : Str → List Str) (base : Heap) (k : Nat) (x : Str) (ps : List Str) (m : List D → Option Rs) : Prop where
  ex : ∃ f fd, mg x = some (.ref f) ∧ PySem.W.keepIn K (.ref f) = true ∧ Binds K fd ps [] ∧ FnOk P w K mg base (L2N.CX P w) k f fd ps (spXL K mg FN m)
section
variable {P : Program} {w : World} {K : PySem.W.Frag} {mg : Str → Option Value} {FN : Str → List Str} {base : Heap} {x qual : Str} {st : Stmt} {f : Addr} {fd : FuncData} {N ps : List Str} {k : Nat}
theorem dfT_mk {m : List D → Option D} (F : Fun K x qual st f fd) (S : FnScope N ps (defScope st)) (hm : mg x = some (.ref f)) (hb : Binds K fd ps []) (hl : ∀ ds d, m ds = some d → ds.length = ps.length) (hN : ps.length ≤ N.length)
    (body : ∀ (cdv : Value) (A : Around) (outer : List Env) (s : Shared) (H : Hp) (E : XK), Room k (A.deeper (envOfC qual (defScope st) s.heap.objs.size f cdv)) →
      ∃ t, PSs (cxOf CX0 P w K mg base N qual (defScope st) f cdv A outer s H E).nox (defBody st) t ∧
        ∀ ds d, m ds = some d → ∃ (β : Type) (eb : β → En) (en : Empty → En) (o : Out Empty β), DS K (.no (RtNT K)) (envF N.length ds) t en eb o ∧ o.run = some d) : DfT P w K mg base (k + 1) x ps m := by
  refine ⟨f, fd, hm, F.kp, hb, ?_⟩
  refine F.ok S (fun vs H Q E h => ?_) fun cdv A outer s H vs Q E hr h => ?_
  · obtain ⟨ds, d, ha, e, _⟩ := h
    rw [dpa_len ha]; exact hl ds d e
  · obtain ⟨t, h1, h2⟩ := body cdv A outer s H E hr
    refine ⟨t, h1, ?_⟩
    obtain ⟨ds, d, ha, e, q⟩ := h
    obtain ⟨β, eb, en, o, hd, ho⟩ := h2 ds d e
    refine hd _ noHp H noHp noHp H _ (start_envF ha (by rw [hl ds d e]; exact hN)) ?_
    cases o with
    | nx a => cases a
    | rt d' => cases ho; exact fun v G' H' ⟨hh, S, hs, hn⟩ => q v S H' hh hs hn
    | bk b => cases ho
    | ct b => cases ho
    | no => cases ho
    | xc x => cases ho
theorem dfXL_mk {m : List D → Option Rs} (xe : En) (F : Fun K x qual st f fd) (S : FnScope N ps (defScope st)) (hm : mg x = some (.ref f)) (hb : Binds K fd ps []) (hl : ∀ ds d, m ds = some d → ds.length = ps.length) (hN : ps.length ≤ N.length)
    (body : ∀ (cdv : Value) (A : Around) (outer : List Env) (s : Shared) (H : Hp) (E : XK), Room k (A.deeper (envOfC qual (defScope st) s.heap.objs.size f cdv)) →
      ∃ t, PSs (cxOf (L2N.CX P w) P w K mg base N qual (defScope st) f cdv A outer s H E) (defBody st) t ∧
        ∀ ds r, m ds = some r → ∃ (β : Type) (eb : β → En) (en : Empty → En) (o : Out Empty β), DS K (.xs K mg FN (RtL K) (fun cls d _ H => E cls d H) xe) (envF N.length ds) t en eb o ∧ o.runX = some r) : DfXL P w K mg FN base (k + 1) x ps m := by
  refine ⟨f, fd, hm, F.kp, hb, ?_⟩
  refine okN F S (fun vs H Q E h => ?_) fun cdv A outer s H vs Q E hr h => ?_
  · obtain ⟨ds, d, ha, e, _⟩ := h
    rw [dpa_len ha]; exact hl ds d e
  · obtain ⟨t, h1, h2⟩ := body cdv A outer s H E hr
    refine ⟨t, h1, ?_⟩
    obtain ⟨ds, r, ha, e, q1, q2⟩ := h
    obtain ⟨β, eb, en, o, hd, ho⟩ := h2 ds r e
    refine hd _ noHp H noHp noHp H _ (start_envF ha (by rw [hl ds r e]; exact hN)) ?_
    cases o with
    | nx a => cases a
    | rt d' =>
      cases ho
      rintro v G' H' ⟨E', p, xs, es, rfl, rfl, hp, gp, hl', ha'⟩
      obtain ⟨S', s1, s2⟩ := dpa_fp es xs ha'
      have nw : ∀ a ∈ S', H a = none := fun a ha => by
        cases e : H a with
        | none => rfl
        | some u =>
          exfalso
          rcases E'.nw a (by rw [e]; exact Option.some_ne_none _) rfl with z | z
          · exact (s1 a ha).ow.1 z
          · exact (s1 a ha).ow.2 z
      have same : ∀ a, G' a ≠ none → H' a = G' a := fun a h => by
        cases e : G' a with
        | none => exact absurd e h
        | some u => exact E'.gh a u e
      exact q1 _ rfl p xs es S' H' rfl E'.hh hp (fun a ha => ⟨nw a ha, by rw [same a (s1 a ha).ow.1]; exact s1 a ha⟩) (fun z => (s1 p z).ow.1 gp) hl'
        (DpNs.at' (fun a ha => ⟨ha, same a (s1 a ha).ow.1⟩) (fun a ha => same a fun z => by rw [z] at ha; exact ha) es xs s2)
    | bk b => cases ho
    | ct b => cases ho
    | no => cases ho
    | xc x => cases ho; exact fun σ G' H' cls dd s r => q2 _ rfl cls dd G' H' s.ext.hh s.ext.gh r
end
theorem kDfT {X : Cx} {k : Nat} {x : Str} {ps : List Str} {e : Expr} {es : List Expr} {t : TA} {p pos : Pos} (K : PySem.W.Frag) {m : List D → Option D} {P : Program} {w : World} {mg : Str → Option Value} {base : Heap} (d : DfT P w K mg base k x ps m) (hr : Room k X.A) (hg : Gl X x) (ha : PA X (e :: es) t)
    (h1 : X.prog = P := by rfl) (h2 : X.w = w := by rfl) (h3 : X.K = K := by rfl) (h4 : X.mg = mg := by rfl) (h5 : X.base = base := by rfl) (hdb : (x == ("__debug__" : Str)) = false := by decide)
    (he : starEach (e :: es) X.env = (false, eval e X.env) :: starEach es X.env := by rfl) (hpl : (backTo pos (starEach es X.env)).any (·.1) = false := by rfl) :
    PE X (.Call (.Name x p) (e :: es) [] pos) (tCall (spT K m) [] E0 t) := by
  subst h1; subst h2; subst h3; subst h4; subst h5
  obtain ⟨f, fd, g1, g2, g3, g4⟩ := d.ex
  exact pe_call g4 hr hg g1 g2 g3 .nil pass0 ha hdb he hpl
theorem kDfXL {X : Cx} {k : Nat} {x : Str} {ps : List Str} {e : Expr} {es : List Expr} {t : TA} {p pos : Pos} {W : WX} {FN : Str → List Str} (K : PySem.W.Frag) {m : List D → Option Rs} {P : Program} {w : World} {mg : Str → Option Value} {base : Heap} (d : DfXL P w K mg FN base k x ps m) (hr : Room k X.A) (hg : Gl X x) (tk : L2N.Takes X W) (ha : PA X (e :: es) t)
    (h1 : X.prog = P := by rfl) (h2 : X.w = w := by rfl) (h3 : X.K = K := by rfl) (h4 : X.mg = mg := by rfl) (h5 : X.base = base := by rfl) (hdb : (x == ("__debug__" : Str)) = false := by decide)
    (he : starEach (e :: es) X.env = (false, eval e X.env) :: starEach es X.env := by rfl) (hpl : (backTo pos (starEach es X.env)).any (·.1) = false := by rfl) :
    PE X (.Call (.Name x p) (e :: es) [] pos) (tCallS (spXL K mg FN m) (WE W) t) := by
  subst h1; subst h2; subst h3; subst h4; subst h5
  obtain ⟨f, fd, g1, g2, g3, g4⟩ := d.ex
  exact pe_callS g4 hr hg g1 g2 g3 (fun σ => L2N.passAt tk σ) ha hdb he hpl
section
variable {K : PySem.W.Frag} {mg : Str → Option Value} {FN : Str → List Str} {W : WX} {M : Md} {xe env : En} {α β : Type} {en : α → En} {eb : β → En} {ta te : TE} {tA : TA} {ra : Option D} {rA : Option (List D)}
theorem dv_varT (i : Nat) {d : D} (h : env[i]? = some (Sl.nt d) := by rfl) : DV K env (tVar i) (some d) := fun σ G H Q x s g z q => by
  cases z
  obtain ⟨o, h1, v, rfl, h2⟩ := s.at' i _ h
  exact ⟨v, h1, q v G H (Ext.refl g) h2⟩
theorem ds_setT {i : Nat} {m : List D → Option D} {E : XK} (h : DA K env tA rA) : DS K M env (tAsg (tCall (spT K m) [] E tA) (gName i)) (fun d => env.set i (.nt d)) eb (toO (rA.bind m)) := fun σ G0 H0 B G H T s q => by
  cases e : rA.bind m with
  | none => rw [e] at q; exact q.elim
  | some d =>
    rw [e] at q
    obtain ⟨ds, e1, e2⟩ := bind_some e
    refine h σ H H _ ds s.all (Same.refl H) e1 fun vs G1 H1 E1 h1 => ?_
    refine ⟨ds, d, by rw [List.append_nil]; exact dpa_mono E1.gh _ _ h1, e2, fun v S H' hh hs hd => ?_⟩
    have HH : Same H H' := E1.hh.trans hh
    refine q _ G H' (s.put ⟨Same.refl G, HH, s.ext.gh.trans HH, fun _ _ z => .inl z⟩ (sl := .nt d) (S := S) i ⟨v, rfl, hd, fun a ha => (hs a ha).2⟩ fun a ha => ?_)
    have hn := E1.hh.free (hs a ha).1
    exact ⟨hn, s.ext.gh.free hn, (hs a ha).2.ow⟩
/-- return (s, f(..)), f a def that may raise -/
def outT {α β : Type} (s : Str) (r : Option Rs) : Out α β := match r with
  | some (.ok (.list es)) => .rt (.tuple [.str s, .list es])
  | some (.xc (c, [])) => .xc (c, [])
  | _ => .no
theorem xr_any {K : PySem.W.Frag} {mg : Str → Option Value} {FN : Str → List Str} {G G' : Hp} {cls : Value} {d : Option Addr} {c : Str} (h : XR K mg FN G cls d (c, [])) : XR K mg FN G' cls d (c, []) := by
  obtain ⟨C, h1, h2, h3 | ⟨dd, vs, h3, h4, h5, h6⟩⟩ := h
  · exact ⟨C, h1, h2, .inl h3⟩
  · exact absurd rfl h6
theorem ds_retTX {z : Str} {m : List D → Option Rs} (h : DA K env tA rA) (hx : Le xe env) :
    DS K (.xs K mg FN (RtNT K) W xe) env (tRet (tTup (tCons (tC (.str z)) (tCons (tCallS (spXL K mg FN m) (WE W) tA) tNil)))) en eb (outT z (rA.bind m) : Out α β) := fun σ G0 H0 B G H T s q => by
  cases e : rA.bind m with
  | none => rw [e] at q; exact q.elim
  | some r =>
    rw [e] at q
    obtain ⟨ds, e1, e2⟩ := bind_some e
    refine h σ H H _ ds s.all (Same.refl H) e1 fun vs G1 H1 E1 h1 => ?_
    refine ⟨ds, r, dpa_mono E1.gh _ _ h1, e2, fun d hd p xs es S H' hde hh hp hs hpS hl hn => ?_, fun x hxx cls dd G' H' hh hg hr => ?_⟩
    · subst hd; subst hde
      refine ⟨by show 2 ≤ sizeLine; decide, fun b hb => ?_⟩
      have H1' : Same H H' := E1.hh.trans hh
      have H01 : Same H0 H1 := s.ext.hh.trans E1.hh
      have HU : Same H' (upd H' b (.tup [.str z, .ref p])) := same_upd hb
      refine q (.ref b) G _ ⟨(s.ext.hh.trans H1').trans HU, p :: S, fun a ha => ?_, .inl ⟨b, z, p, xs, es, S, rfl, rfl, .inl (.inl upd_same), by simp, HU _ _ hl, ?_, hpS, fun a ha => List.mem_cons_of_mem _ ha⟩⟩
      · rcases List.mem_cons.mp ha with rfl | ha
        · exact ⟨H01.free hp, xs, HU _ _ hl⟩
        · obtain ⟨ys, ey⟩ := (hs a ha).2
          exact ⟨H01.free (hs a ha).1, ys, HU _ _ ey⟩
      · refine DpNs.at' (fun a ha => ⟨ha, ?_⟩) (fun a ha => ?_) es xs hn
        · obtain ⟨ys, ey⟩ := (hs a ha).2
          rw [ey]; exact HU _ _ ey
        · cases e : H' a with
          | none => rw [e] at ha; exact ha.elim
          | some u => exact HU _ _ e
    · subst hxx
      have E3 : Ext G H G H' := ⟨Same.refl G, E1.hh.trans hh, (s.ext.gh.trans E1.hh).trans hh, fun _ _ z => .inl z⟩
      obtain ⟨G2, s2, g2⟩ := (s.ext' E3).weak hx
      obtain ⟨c, fs⟩ := x
      cases fs with
      | nil => exact q σ G2 H' cls dd s2 (xr_any hr)
      | cons _ _ => exact q.elim
/-- return e, data without a list -/
theorem ds_retTF (h : DV K env te ra) (hM : M.R = RtNT K := by rfl) : DS K M env (tRet te) en eb (toR (flatO ra) : Out α β) := fun σ G0 H0 B G H T s q => by
  cases e : flatO ra with
  | none => rw [e] at q; exact q.elim
  | some d =>
    rw [e] at q
    obtain ⟨e1, e2⟩ := flatO_some e
    refine h σ H H _ d s.all (Same.refl H) e1 fun v G' H' E hd => q v G H' ?_
    rw [hM]
    exact ⟨s.ext.hh.trans E.hh, [], fun a ha => absurd ha List.not_mem_nil, .inr ⟨e2, dp_mono E.gh _ v hd⟩⟩
theorem ds_retLX (h : DLX K env (noOw env) te rA) (hM : M.R = RtL K := by rfl) : DS K M env (tRet te) en eb (toR (newO rA) : Out α β) := fun σ G0 H0 B G H T s q => by
  cases rA with
  | none => exact q.elim
  | some ds =>
    refine h σ G H _ ds s.all s.shd s.ext.gh rfl fun p xs G' H' E hp gp hl hd => q (.ref p) G' H' ?_
    rw [hM]
    exact ⟨s.ext.trans E, p, xs, ds, rfl, rfl, s.ext.hh.free hp, gp, hl, hd⟩
end
theorem DfXL.df {P : Program} {w : World} {K : PySem.W.Frag} {mg : Str → Option Value} {FN : Str → List Str} {base : Heap} {k : Nat} {x : Str} {ps : List Str} {m : List D → Option Rs} (d : DfXL P w K mg FN base k x ps m) : Df P w K mg base k x ps (fun ds => okR' (m ds)) := by
  obtain ⟨f, fd, h1, h2, h3, h4⟩ := d.ex
  have conv : ∀ {vs : List V} {H : Hp} {Q : VK} {E : XK}, spD K (fun ds => okR' (m ds)) vs H Q E → spXL K mg FN m vs H Q (fun _ _ _ => False) := fun {vs H Q E} h => by
    obtain ⟨G, ds, d, g, ha, e, q⟩ := h
    have e : okR' (m ds) = some d := e
    cases er : m ds with
    | none => rw [er] at e; cases e
    | some r =>
      cases r with
      | xc x => rw [er] at e; cases e
      | ok d' =>
        rw [er] at e
        cases e
        refine ⟨ds, .ok d, dpa_mono g _ _ ha, er, fun d2 e2 p xs es S H' hde hh hp hs hpS hl hn => ?_, fun x e2 => by cases e2⟩
        cases e2; subst hde
        have dn : DpN K H' (p :: S) (.ref p) (.list es) := .lst (by simp) hl (hn.more fun a ha => List.mem_cons_of_mem _ ha)
        refine q _ _ H' (ext_adopt g hh fun a ha => ?_) (dp_adopt dn)
        rcases List.mem_cons.mp ha with rfl | ha
        · exact hp
        · exact (hs a ha).1
  refine ⟨f, fd, h1, h2, h3, ⟨fun vs H Q E h => h4.1 vs H Q _ (conv h), fun A outer s H args us vs Q E hr he hb hv hs => ?_⟩⟩
  refine codeAny_mono (h4.2 A outer s H args us vs Q _ hr he hb hv (conv hs)) fun r s' hc => ?_
  cases r with
  | ok fl => cases fl <;> exact hc
  | error e =>
    obtain ⟨a, B, H', cls, d, _, _, _, _, _, _, _, no⟩ := (hc : L2N.CX P w outer H s (fun _ _ _ => False) e s')
    exact no.elim
theorem DfT.df {P : Program} {w : World} {K : PySem.W.Frag} {mg : Str → Option Value} {base : Heap} {k : Nat} {x : Str} {ps : List Str} {m : List D → Option D} (d : DfT P w K mg base k x ps m) : Df P w K mg base k x ps m := by
  obtain ⟨f, fd, h1, h2, h3, h4⟩ := d.ex
  have conv : ∀ {vs : List V} {H : Hp} {Q : VK} {E : XK}, spD K m vs H Q E → spT K m vs H Q E := fun {vs H Q E} h => by
    obtain ⟨G, ds, d, g, ha, e, q⟩ := h
    refine ⟨ds, d, dpa_mono g _ _ ha, e, fun v S H' hh hs hn => q v (adopt G S H') H' (ext_adopt g hh fun a ha => (hs a ha).1) ?_⟩
    rcases hn with ⟨b, s, p, xs, es, S', rfl, rfl, n3, n4, n5, n6, n7, n8⟩ | ⟨ef, n⟩
    · exact dp_adopt (.tup n3 (.cons (.str s) (.cons (.lst n4 n5 (n6.more n8)) .nil)))
    · exact dp_ft (fun a ha => adopt_in (.inr ha)) d v ef n
  exact ⟨f, fd, h1, h2, h3, ⟨fun vs H Q E h => h4.1 vs H Q E (conv h), fun A outer s H args us vs Q E hr he hb hv hs => h4.2 A outer s H args us vs Q E hr he hb hv (conv hs)⟩⟩
/-! #### for x in y[1]: x[2].append(c), y such a pair -/
def okDD : D → Bool
  | .tuple [.str _, .list ds] => okB ds && decide (ds.length ≤ 100000)
  | _ => false
def spDD (d : D) : Option Unit := if okDD d = true then some () else none
section
variable {K : PySem.W.Frag} {M : Md} {env : En} {β : Type} {eb : β → En}
theorem ds_spDD {i j : Nat} {c : Int} {d : D} (hi : env[i]? = some (Sl.nt d)) (hij : i ∉ [j]) (hj : ∀ k ∈ [j], env[k]? = some Sl.un ∨ env.length ≤ k) (hjl : j < env.length) :
    DS K M env (tFor (iAny K (tOp (rIx K) (tVar i) (tC (.int 1)))) (gName j) (tDrop (tBM K "list" rAppend (tOp (rIx K) (tVar j) (tC (.int 2))) (tCons (tC (.int c)) tNil)))) (fun _ : Unit => env.set i .wa) eb (toO (spDD d) : Out Unit β) := by
  unfold spDD
  by_cases hd : okDD d = true
  · rw [if_pos hd]
    obtain ⟨z, ds, rfl, hB, hl⟩ : ∃ z ds, d = .tuple [.str z, .list ds] ∧ okB ds = true ∧ ds.length ≤ 100000 := by
      unfold okDD at hd
      split at hd
      · rw [Bool.and_eq_true] at hd
        exact ⟨_, _, rfl, hd.1, of_decide_eq_true hd.2⟩
      · cases hd
    intro σ G0 H0 B G H T s q
    obtain ⟨F, f1, f2, f3⟩ := s.fp
    obtain ⟨o, h1, v, rfl, hn, hL⟩ := f1 i _ hi
    have jn : env[j]? = some .un := by
      rcases hj j (by simp) with e | e
      · exact e
      · omega
    have ij : i ≠ j := by simpa using hij
    rcases hn with ⟨b0, z', p, xs, ds', S', rfl, e0, hb0, pS, hp, hall, pS', sub⟩ | ⟨hfl, _⟩
    · have e0 : ds = ds' := by
        injection e0 with e0
        injection e0 with _ e0
        injection e0 with e0 _
        injection e0
      subst e0
      have hlen := dpns_len hall
      have inner := okB_inner hB hall
      have b0n : ∀ {H' : Hp}, (∀ b o, b ∉ F i → H b = some o → H' b = some o) → SqT K H' b0 [.str z', .ref p] := fun hk => sqt_keep hk hL hb0
      refine .inl ⟨.ref b0, h1, .inr (.inl ⟨b0, [.str z', .ref p], 1, .ref p, rfl, rfl, hb0, rfl, p, rfl, ⟨xs, .inl (.inl hp)⟩, ?_⟩)⟩
      refine ⟨fun n m σ' H' => m = xs.length - n ∧ n ≤ xs.length ∧ σ'.length = σ.length ∧ (∀ k, k ≠ j → σ'[k]? = σ[k]?) ∧ H' p = some (.lst xs) ∧ (∀ b o, b ∉ F i → H b = some o → H' b = some o) ∧ (∀ b ∈ F i, Lst (H' b)) ∧
        (∀ k (hk : k < xs.length), ∃ b u0 u1 a ys, xs[k]? = some (.ref b) ∧ SqT K H b [u0, u1, .ref a] ∧ H' a = some (.lst ys) ∧ ys.length ≤ 100000 + n ∧ a ∈ S'),
        ⟨xs.length, by omega, Nat.zero_le _, rfl, fun _ _ => rfl, hp, fun _ _ _ e => e, hL, fun k hk => ?_⟩, ?_⟩
      · obtain ⟨b, u0, u1, a, ys, e1, e2, e3, e4, e5⟩ := inner k hk
        exact ⟨b, u0, u1, a, ys, e1, e2, e3, e4, e5⟩
      rintro n m σ' H' ⟨rfl, hn', l', s', p', k', L', I'⟩
      by_cases hlt : n < xs.length
      · right
        refine ⟨⟨xs, xs[n], .inl (.inl p'), List.getElem?_eq_getElem hlt⟩, fun σ'' H'' => ∃ m', m' < xs.length - n ∧ (m' = xs.length - (n + 1) ∧ n + 1 ≤ xs.length ∧ σ''.length = σ.length ∧ (∀ k, k ≠ j → σ''[k]? = σ[k]?) ∧ H'' p = some (.lst xs) ∧ (∀ b o, b ∉ F i → H b = some o → H'' b = some o) ∧ (∀ b ∈ F i, Lst (H'' b)) ∧
          ∀ k (hk : k < xs.length), ∃ b u0 u1 a ys, xs[k]? = some (.ref b) ∧ SqT K H b [u0, u1, .ref a] ∧ H'' a = some (.lst ys) ∧ ys.length ≤ 100000 + (n + 1) ∧ a ∈ S'), fun σ'' H'' h => h, fun x H3 hy => ?_⟩
        obtain ⟨rfl, hx⟩ := hy
        have ex := hx xs (.inl (.inl p'))
        obtain ⟨b, u0, u1, a, ys, e1, e2, e3, e4, e5⟩ := I' n hlt
        rw [e1] at ex; cases ex
        have jl : j < σ'.length := by rw [l', s.len]; exact hjl
        have ap : a ≠ p := fun z => pS' (by rw [← z]; exact e5)
        have aF : a ∈ F i := sub a e5
        refine ⟨.ref b, List.getElem?_set_self jl, .inr (.inl ⟨b, [u0, u1, .ref a], 2, .ref a, rfl, rfl, sqt_keep k' hL e2, rfl, ?_⟩)⟩
        refine ⟨Or.inl ⟨rfl, ys, .inl (.inl e3)⟩, a, ys, .int c, rfl, rfl, e3, Nat.lt_of_lt_of_le (by omega : ys.length < 300000) big_le, ?_⟩
        refine ⟨_, by omega, rfl, hlt, by rw [List.length_set]; exact l', fun k hk => by rw [List.getElem?_set_ne (Ne.symm hk)]; exact s' k hk, by rw [upd_ne (Ne.symm ap)]; exact p', fun b o hb e => by rw [upd_ne (fun z => hb (by rw [z]; exact aF))]; exact k' b o hb e, fun b hb => ?_, fun k hk => ?_⟩
        · by_cases z : b = a
          · subst z; exact ⟨_, upd_same⟩
          · rw [upd_ne z]; exact L' b hb
        · obtain ⟨b2, w0, w1, a2, ys2, m1, m2, m3, m4, m5⟩ := I' k hk
          by_cases z : a2 = a
          · subst z
            rw [e3] at m3; cases m3
            exact ⟨b2, w0, w1, a2, _, m1, m2, upd_same, by rw [List.length_append]; simp; omega, m5⟩
          · exact ⟨b2, w0, w1, a2, ys2, m1, m2, by rw [upd_ne z]; exact m3, by omega, m5⟩
      · left
        have : n = xs.length := by omega
        subst this
        refine ⟨⟨xs, .inl (.inl p'), Nat.le_refl _⟩, q σ' G H' ?_⟩
        have keq : ∀ b, H b ≠ none → b ∉ F i → H' b = H b := fun b hb n => by
          cases e : H b with
          | none => exact absurd e hb
          | some u => exact k' b u n e
        refine ⟨⟨s.ext.gg, fun b u e => k' b u (fun hb => ?_) (s.ext.hh b u e), fun b u e => k' b u (fun hb => ?_) (s.ext.gh b u e), s.ext.nw⟩, s.bg, by rw [List.length_set, l']; exact s.len, F, fun k e hk => ?_, fun k a hk => ?_, f3⟩
        · have := (f2 i b hb).2.1; rw [this] at e; cases e
        · have := (f2 i b hb).1; rw [this] at e; cases e
        · rcases set_some hk with ⟨rfl, rfl, _⟩ | ⟨ne, hk⟩
          · exact ⟨_, (s' _ ij).trans h1, trivial⟩
          · obtain ⟨o', c1, c2⟩ := f1 k e hk
            by_cases cc : k = j
            · subst cc
              rw [jn] at hk; cases hk
              have jl : k < σ'.length := by rw [l', s.len]; exact hjl
              exact ⟨σ'[k], List.getElem?_eq_getElem jl, c2.1, trivial⟩
            · exact ⟨o', (s' k cc).trans c1, e.pm (Same.refl G) (fun a ha => keq a (f2 k a ha).2.2.1 fun z => f3 k i a (Ne.symm ne) ha z) (fun b hb => keq b (fun z => by rw [z] at hb; exact hb) fun z => (f2 i b z).2.2.2 hb) c2⟩
        · obtain ⟨h3', h4, h5⟩ := f2 k a hk
          refine ⟨h3', h4, ?_⟩
          by_cases z : a ∈ F i
          · exact (L' a z).ow
          · cases e : H a with
            | none => exact absurd e h5.1
            | some u => rw [k' a u z e, ← e]; exact h5
    · have : flat (.tuple [.str z, .list ds]) = false := by
        simp [flat, flatA]
      rw [this] at hfl; cases hfl
  · rw [if_neg hd]; exact fun σ G0 H0 B G H T s q => q.elim
end
/-! #### a comprehension over what an all-new def hands back -/
theorem dlx_lcG {K : PySem.W.Frag} {e eG : En} {ti : TE} {g : TG} {tt : TT} {te : TE} {vs ts : List Nat} {rI : Option D} {b : En → D → Option En} {c : D → Option Bool} {f : D → Option D}
    (hi : DVX K e eG ti rI) (hg : BG K g ts b) (hts : ∀ i ∈ ts, i ∈ vs)
    (hc : ∀ x env', b (wipeE eG vs) x = some env' → DT K env' tt (c x)) (hf : ∀ x env', b (wipeE eG vs) x = some env' → DV K env' te (f x)) (hb : ∀ x y, c x = some y → ∃ env', b (wipeE eG vs) x = some env') :
    DLX K e eG (tLc (iAny K ti) g tt te vs) ((rI.bind lsO).bind (lcZ c f)) := fun σ G H Q out s0 s gh z q => by
  obtain ⟨ds, e1, e2⟩ := bind_some z
  obtain ⟨d, e0, e1⟩ := bind_some e1
  have ed : d = .list ds := by cases d <;> first | (cases e1; rfl) | cases e1
  subst ed
  unfold lcZ at e2
  by_cases hz : ds.length ≤ sizeLine
  · rw [if_pos hz] at e2
    refine .inl (hi σ G H _ _ s0 s gh e0 fun v G1 H1 E1 h1 => ?_)
    cases h1 with
    | lst hs ha =>
    rename_i p0 xs0
    refine ⟨p0, rfl, ⟨xs0, .inl (.inl (E1.gh _ _ hs))⟩, ?_⟩
    have ok : ItOk K G1 (Itl K p0) ds := it_list (.inl (.inl hs)) ha
    intro Dd hD
    have gD : G1 Dd = none := E1.gh.free hD
    refine ⟨fun i m H2 => i ≤ ds.length ∧ m = ds.length - i ∧ ∃ (G2 : Hp) (acc : List V) (as rest : List D), Ext G1 H1 G2 H2 ∧ H2 Dd = some (.lst acc) ∧ G2 Dd = none ∧ DpAll K G2 acc as ∧ as.length ≤ i ∧ lcD c f (ds.drop i) = some rest ∧ as ++ rest = out,
      ⟨ds.length, Nat.zero_le _, by omega, G1, [], [], out, Ext.own E1.gh hD, upd_same, gD, .nil, Nat.le_refl _, by simpa using e2, rfl⟩, ?_⟩
    rintro i m H2 ⟨hi2, rfl, G2, acc, as, rest, E2, hacc, gD2, hd, hl, hr, ho⟩
    by_cases hlt : i < ds.length
    · right
      refine ⟨ok.go G2 H2 i E2.gg E2.gh hlt, fun H3 => ∃ m', m' < ds.length - i ∧ (i + 1 ≤ ds.length ∧ m' = ds.length - (i + 1) ∧ ∃ (G2 : Hp) (acc : List V) (as rest : List D), Ext G1 H1 G2 H3 ∧ H3 Dd = some (.lst acc) ∧ G2 Dd = none ∧ DpAll K G2 acc as ∧ as.length ≤ i + 1 ∧ lcD c f (ds.drop (i + 1)) = some rest ∧ as ++ rest = out), fun H3 h => h, fun x H3 hy => ?_⟩
      have hget : ds[i]? = some ds[i] := List.getElem?_eq_getElem hlt
      obtain ⟨G3, E3, hx⟩ := ok.yl G2 H2 i x H3 ds[i] E2.gg E2.gh hget hy
      rw [drop_cons hlt] at hr
      unfold lcD at hr
      obtain ⟨bb, ec, hr⟩ := bind_some hr
      obtain ⟨env', eb⟩ := hb ds[i] bb ec
      have hH3 : H3 Dd = some (.lst acc) := E3.hh _ _ hacc
      have gD3 : G3 Dd = none := E3.nwL hacc gD2
      refine hg (wipeE eG vs) env' (L2.wipe σ vs) G3 H3 x ds[i] _ ((s.wipe vs).mono ((E1.gg.trans E2.gg).trans E3.gg)) E3.gh hx eb fun σ2 s2 w2 _ => ?_
      refine ⟨(w2 vs hts).trans wipe_idem, ?_⟩
      refine hc ds[i] env' eb σ2 G3 H3 _ bb s2 E3.gh ec fun G4 H4 E4 => ?_
      have hH4 : H4 Dd = some (.lst acc) := E4.hh _ _ hH3
      have gD4 : G4 Dd = none := E4.nwL hH3 gD3
      have E14 := (E2.trans E3).trans E4
      cases bb with
      | true =>
        rw [if_pos rfl] at hr ⊢
        obtain ⟨y, ey, hr⟩ := bind_some hr
        obtain ⟨ys, eys, hr⟩ := bind_some hr
        cases hr
        refine hf ds[i] env' eb σ2 G4 H4 _ y (s2.mono E4.gg) E4.gh ey fun v G5 H5 E5 h5 => ?_
        have hH5 : H5 Dd = some (.lst acc) := E5.hh _ _ hH4
        have gD5 : G5 Dd = none := E5.nwL hH4 gD4
        have E15 := E14.trans E5
        have hlen := dpa_len hd
        refine ⟨acc, hH5, by omega, ds.length - (i + 1), by omega, by omega, rfl, G5, acc ++ [v], as ++ [y], ys, ?_, upd_same, gD5, dpa_app (dpa_mono ((E3.gg.trans E4.gg).trans E5.gg) _ _ hd) (dpa_one h5), ?_, eys, by rw [← ho, List.append_assoc]; rfl⟩
        · refine ⟨E15.gg, fun bq o eq => ?_, fun bq o eq => ?_, E15.nw⟩
          · have : bq ≠ Dd := ne_of_none eq hD
            rw [upd_ne this]; exact E15.hh bq o eq
          · have : bq ≠ Dd := ne_of_none eq gD5
            rw [upd_ne this]; exact E15.gh bq o eq
        · rw [List.length_append]; simp; omega
      | false =>
        rw [if_neg Bool.false_ne_true] at hr ⊢
        exact ⟨ds.length - (i + 1), by omega, by omega, rfl, G4, acc, as, rest, E14, hH4, gD4, dpa_mono (E3.gg.trans E4.gg) _ _ hd, by omega, hr, ho⟩
    · left
      have ei : i = ds.length := by omega
      subst ei
      rw [List.drop_length] at hr
      cases hr
      rw [List.append_nil] at ho
      subst ho
      exact ⟨ok.stop G2 H2 _ E2.gg E2.gh (Nat.le_refl _), q Dd acc G2 H2 (E1.trans E2) (E1.hh.free hD) gD2 hacc hd⟩
  · rw [if_neg hz] at e2; cases e2
theorem dlx_lcG3 {K : PySem.W.Frag} {e eG : En} {ti : TE} {tt : TT} {te : TE} {vs : List Nat} {i j k : Nat} {rI : Option D} {c : D → D → D → Option Bool} {f : D → D → D → Option D} (hi : DVX K e eG ti rI)
    (hc : ∀ x y z, DT K ((((wipeE eG vs).set i (.sh x)).set j (.sh y)).set k (.sh z)) tt (c x y z)) (hf : ∀ x y z, DV K ((((wipeE eG vs).set i (.sh x)).set j (.sh y)).set k (.sh z)) te (f x y z)) (hts : i ∈ vs ∧ j ∈ vs ∧ k ∈ vs := by decide) :
    DLX K e eG (tLc (iAny K ti) (gTup K 3 (gCons (gName i) (gCons (gName j) (gCons (gName k) gNil)))) tt te vs) ((rI.bind lsO).bind (lcZ (fun x => threeD x c none) (fun x => threeD x f none))) := by
  refine dlx_lcG hi (bg_tup (bgs_cons (bg_name i) (bgs_cons (bg_name j) (bgs_cons (bg_name k) bgs_nil)))) (by intro n hn; simp at hn; rcases hn with rfl | rfl | rfl; exact hts.1; exact hts.2.1; exact hts.2.2) (fun x env' h => ?_) (fun x env' h => ?_) fun x y h => ?_
  · obtain ⟨a, b, d, rfl, rfl⟩ := key3 h; exact hc a b d
  · obtain ⟨a, b, d, rfl, rfl⟩ := key3 h; exact hf a b d
  · unfold threeD at h
    split at h
    · exact ⟨_, rfl⟩
    · cases h
/-! #### index in a list of texts -/
def strsLD : List D → Option (List Str)
  | [] => some []
  | .str z :: ds => (strsLD ds).bind fun zs => some (z :: zs)
  | _ :: _ => none
def idxLD : D → D → Option D
  | .list ds, .str y => (strsLD ds).bind fun zs => (zs.findIdx? fun z => eqV (.str z) (.str y)).map fun j => .int (j : Nat)
  | _, _ => none
theorem dpa_strsL {K : PySem.W.Frag} {H : Hp} : ∀ {ds : List D} {vs : List V} {zs : List Str}, strsLD ds = some zs → DpAll K H vs ds → vs = zs.map V.str
  | [], _, zs, e, h => by cases h; cases e; rfl
  | d :: ds, _, zs, e, h => by
    cases h with
    | cons h1 h2 =>
      cases d with
      | str z =>
        obtain ⟨ws, e1, e2⟩ := bind_some e
        cases e2
        cases h1
        rw [dpa_strsL e1 h2]; rfl
      | _ => cases e
theorem dv_idxL {K : PySem.W.Frag} {env : En} {to te : TE} {ra rb : Option D} (ho : DV K env to ra) (he : DV K env te rb) : DV K env (tBM K "list" (rIndex K) to (tCons te tNil)) (op2 idxLD ra rb) := fun σ G H Q d s g e q => by
  obtain ⟨x, ex, e⟩ := bind_some e
  obtain ⟨y, ey, e⟩ := bind_some e
  cases x with
  | list ds =>
    cases y with
    | str z =>
      obtain ⟨zs, e1, e⟩ := bind_some e
      obtain ⟨j, e2, e3⟩ := Option.map_eq_some_iff.mp e
      subst e3
      refine ho σ G H _ _ s g ex fun v G1 H1 E1 h1 => ?_
      cases h1 with
      | lst hs ha =>
        rename_i a xs
        have hv := dpa_strsL e1 ha
        subst hv
        refine ⟨Or.inl ⟨rfl, _, .inl (.inl (E1.gh _ _ hs))⟩, he σ G1 H1 _ _ (s.mono E1.gg) E1.gh ey fun w G2 H2 E2 hw => ?_⟩
        cases hw
        obtain ⟨hlt, f1, f2⟩ := List.findIdx?_eq_some_iff_getElem.mp e2
        refine ⟨a, _, .str z, j, .str zs[j], rfl, rfl, .inl (.inl (E2.hh _ _ (E1.gh _ _ hs))), rfl, List.all_eq_true.mpr fun u hu => ?_, by rw [List.getElem?_map, List.getElem?_eq_getElem hlt]; rfl, f1, fun m z' hm hz' => ?_, q _ G2 H2 (E1.trans E2) (.int _)⟩
        · obtain ⟨y, _, rfl⟩ := List.mem_map.mp hu; rfl
        · have hm' : m < zs.length := by omega
          rw [List.getElem?_map, List.getElem?_eq_getElem hm'] at hz'
          cases hz'
          have := f2 m hm
          simpa using this
    | _ => cases e
  | _ => cases y <;> cases e
end Dl

set_option Elab.async false
set_option linter.all false
set_option maxRecDepth 100000
set_option maxHeartbeats 2000000
namespace Dl
open PySem PySem.Spec PyProof.Rows L2
/-! ### [xs, ys][k].append(e), xs and ys own lists -/
section
variable {K : PySem.W.Frag} {M : Md} {env : En} {β : Type} {eb : β → En} {tk te : TE} {rk re : Option D}
def app2 (xs ys : List D) : D → D → Option (List D × List D)
  | .int 0, d => (addL xs d).map fun zs => (zs, ys)
  | .int 1, d => (addL ys d).map fun zs => (xs, zs)
  | _, _ => none
def app2O (xs ys : List D) (rk re : Option D) : Option (List D × List D) := rk.bind fun k => re.bind fun d => app2 xs ys k d
theorem ds_app2 {i j : Nat} {xs ys : List D} (hi : env[i]? = some (Sl.ow xs)) (hj : env[j]? = some (Sl.ow ys)) (hij : i ≠ j) (hk : DV K (noOw env) tk rk) (he : DV K (noOw env) te re) :
    DS K M env (tDrop (tBM K "list" rAppend (tOp (rIx K) (tLst (tCons (tVar i) (tCons (tVar j) tNil))) tk) (tCons te tNil))) (fun (p : List D × List D) => (env.set i (.ow p.1)).set j (.ow p.2)) eb (toO (app2O xs ys rk re)) := fun σ G0 H0 B G H T s q => by
  cases e : app2O xs ys rk re with
  | none => rw [e] at q; exact q.elim
  | some p =>
    rw [e] at q
    obtain ⟨k, ek, e⟩ := bind_some e
    obtain ⟨d, ed, e⟩ := bind_some e
    obtain ⟨a, us, h1, h2, h3, h4, h5⟩ := s.ow i xs hi
    obtain ⟨b, ws, k1, k2, k3, k4, k5⟩ := s.ow j ys hj
    refine ⟨.ref a, h1, .ref b, k1, by show 2 ≤ sizeLine; decide, fun l hl => ?_⟩
    have E0 : Ext G H G (upd H l (.lst [.ref a, .ref b])) := Ext.own s.ext.gh hl
    have s0 := s.ext' E0
    refine hk σ G _ _ k s0.shd s0.ext.gh ek fun v G1 H1 E1 hv => ?_
    have s1 := s0.ext' E1
    have ll : H1 l = some (.lst [.ref a, .ref b]) := E1.hh _ _ upd_same
    have same : ∀ {e : En} {n : Nat} {x : Sl}, e[n]? = some x → e.set n x = e := fun {e n x} h => by
      refine List.ext_getElem? fun m => ?_
      by_cases c : n = m
      · subst c
        have hl : n < e.length := by
          rcases Nat.lt_or_ge n e.length with z | z
          · exact z
          · rw [List.getElem?_eq_none z] at h; cases h
        rw [List.getElem?_set_self hl, h]
      · rw [List.getElem?_set_ne c]
    cases k with
    | int k =>
      cases hv
      have hk01 : k = 0 ∨ k = 1 := by
        by_cases c : k = 0
        · exact .inl c
        · by_cases c1 : k = 1
          · exact .inr c1
          · exfalso
            unfold app2 at e
            split at e
            · rename_i h; injection h with h; exact c h
            · rename_i h; injection h with h; exact c1 h
            · cases e
      rcases hk01 with rfl | rfl
      · obtain ⟨zs, e1, e2⟩ := Option.map_eq_some_iff.mp (show (addL xs d).map (fun zs => (zs, ys)) = some p from e)
        subst e2
        unfold addL at e1
        by_cases hz : xs.length < sizeLine
        · rw [if_pos hz] at e1; cases e1
          refine .inl ⟨l, [.ref a, .ref b], 0, .ref a, rfl, rfl, .inl (.inl ll), rfl, ?_⟩
          have a1 := E1.hh _ _ (E0.hh _ _ h2)
          refine ⟨Or.inl ⟨rfl, _, Or.inl (Or.inl a1)⟩, he σ G1 H1 _ d s1.shd s1.ext.gh ed fun w G2 H2 E2 hw => ?_⟩
          have s2 := s1.ext' E2
          have a2 := E2.hh _ _ a1
          have hlen := dpa_len h5
          refine ⟨a, us, w, rfl, rfl, a2, by omega, q σ G2 _ ?_⟩
          have sc := s2.chg hi h1 a2 (dpa_app (dpa_mono ((E0.gg.trans E1.gg).trans E2.gg) _ _ h5) (dpa_one hw))
          dsimp only
          rw [same (e := env.set i (.ow (xs ++ [d]))) (n := j) (x := .ow ys) (by rw [List.getElem?_set_ne hij]; exact hj)]
          exact sc
        · rw [if_neg hz] at e1; cases e1
      · obtain ⟨zs, e1, e2⟩ := Option.map_eq_some_iff.mp (show (addL ys d).map (fun zs => (xs, zs)) = some p from e)
        subst e2
        unfold addL at e1
        by_cases hz : ys.length < sizeLine
        · rw [if_pos hz] at e1; cases e1
          refine .inl ⟨l, [.ref a, .ref b], 1, .ref b, rfl, rfl, .inl (.inl ll), rfl, ?_⟩
          have a1 := E1.hh _ _ (E0.hh _ _ k2)
          refine ⟨Or.inl ⟨rfl, _, Or.inl (Or.inl a1)⟩, he σ G1 H1 _ d s1.shd s1.ext.gh ed fun w G2 H2 E2 hw => ?_⟩
          have s2 := s1.ext' E2
          have a2 := E2.hh _ _ a1
          have hlen := dpa_len k5
          refine ⟨b, ws, w, rfl, rfl, a2, by omega, q σ G2 _ ?_⟩
          have sc := s2.chg hj k1 a2 (dpa_app (dpa_mono ((E0.gg.trans E1.gg).trans E2.gg) _ _ k5) (dpa_one hw))
          dsimp only
          rw [same hi]
          exact sc
        · rw [if_neg hz] at e1; cases e1
    | _ => cases e
end
end Dl

set_option Elab.async false
set_option linter.all false
set_option maxRecDepth 100000
set_option maxHeartbeats 2000000
namespace Dl
open PySem PySem.Spec PyProof.Rows L2
/-! ### exceptions with fields: the own __init__, the raise, e.f in the suite, isinstance -/
/-- what an own __init__ promises that keeps its arguments as the fields fs -/
def spI (K : PySem.W.Frag) (fs : List Str) : Sp := fun vs H Q _ => ∃ (a C : Addr) (ys : List V), vs = .ref a :: ys ∧ ys.length = fs.length ∧ OexC K C ∧ (∀ f ∈ fs, PySem.W.findIn K (.ref C) f = some none) ∧ H a = some (exo a C none) ∧
  ∀ d H2, H2 a = some (exo a C (some d)) → H2 d = some (exd d (fs.zip ys).reverse) → H d = none → d ≠ a → (∀ b, b ≠ a → b ≠ d → H2 b = H b) → Q .non H2
section
variable {K : PySem.W.Frag} {f g : Str}
theorem init1 {σ : L2.St} {H : Hp} {Q : VK} {E : XK} {vs : List V} (hσ : ∀ i, i < 2 → vs.length = 2 → σ[i]? = some (vs[i]?)) (h : spI K [f] vs H Q E) :
    tOst K f (tVar 0) (tVar 1) { nx := fun _ H' => Q .non H', rt := Q } σ H := by
  obtain ⟨a, C, ys, rfl, hl, T, hn, ha, q⟩ := h
  obtain ⟨y, rfl⟩ : ∃ y, ys = [y] := by
    match ys, hl with
    | [y], _ => exact ⟨y, rfl⟩
  refine ⟨y, hσ 1 (by decide) rfl, .ref a, hσ 0 (by decide) rfl, a, C, rfl, T, hn f List.mem_cons_self, .inl ⟨ha, fun dx hd ne => ?_⟩⟩
  refine q dx _ ?_ ?_ hd ne fun b h1 h2 => ?_
  · exact upd_same
  · rw [upd_ne ne]; exact upd_same
  · rw [upd_ne h1, upd_ne h2]
theorem init2 {σ : L2.St} {H : Hp} {Q : VK} {E : XK} {vs : List V} (hσ : ∀ i, i < 3 → vs.length = 3 → σ[i]? = some (vs[i]?)) (h : spI K [f, g] vs H Q E) :
    tSeq (tOst K f (tVar 0) (tVar 1)) (tOst K g (tVar 0) (tVar 2)) { nx := fun _ H' => Q .non H', rt := Q } σ H := by
  obtain ⟨a, C, ys, rfl, hl, T, hn, ha, q⟩ := h
  obtain ⟨y, z, rfl⟩ : ∃ y z, ys = [y, z] := by
    match ys, hl with
    | [y, z], _ => exact ⟨y, z, rfl⟩
  refine ⟨y, hσ 1 (by decide) rfl, .ref a, hσ 0 (by decide) rfl, a, C, rfl, T, hn f List.mem_cons_self, .inl ⟨ha, fun dx hd ne => ?_⟩⟩
  refine ⟨z, hσ 2 (by decide) rfl, .ref a, hσ 0 (by decide) rfl, a, C, rfl, T, hn g (List.mem_cons_of_mem _ List.mem_cons_self), .inr ⟨dx, [(f, y)], upd_same, ?_, Nat.le_of_ble_eq_true rfl, ?_⟩⟩
  · rw [upd_ne ne]; exact upd_same
  · refine q dx _ ?_ upd_same hd ne fun b h1 h2 => ?_
    · rw [upd_ne (Ne.symm ne)]; exact upd_same
    · rw [upd_ne h2, upd_ne h1, upd_ne h2]
theorem start_at {N : List Str} {vs : List V} (h : vs.length = N.length) (i : Nat) (hi : i < N.length) : (L2.start N vs)[i]? = some (vs[i]?) := by
  unfold L2.start
  simp [h, hi]
end
section
variable {K : PySem.W.Frag} {mg : Str → Option Value} {FN : Str → List Str} {R : RR} {W : WX} {xe env : En} {tA : TA} {rA : Option (List D)}
def mkX (c : Str) (n : Nat) (ds : List D) : Option Xd := if ds.length = n ∧ n ≠ 0 then some (c, ds.reverse) else none
theorem dpa_app' {G : Hp} : ∀ {vs ws : List V} {ds es : List D}, DpAll K G vs ds → DpAll K G ws es → DpAll K G (vs ++ ws) (ds ++ es)
  | _, _, _, _, .nil, k => k
  | _, _, _, _, .cons h t, k => .cons h (dpa_app' t k)
theorem dpa_rev {G : Hp} : ∀ {vs : List V} {ds : List D}, DpAll K G vs ds → DpAll K G vs.reverse ds.reverse
  | _, _, .nil => .nil
  | _, _, .cons h t => by
    rw [List.reverse_cons, List.reverse_cons]
    exact dpa_app' (dpa_rev t) (.cons h .nil)
theorem dm_ownF {C : Addr} {c : Str} {fs : List Str} (hC : mg c = some (.ref C)) (T : OexC K C) (hno : ∀ f ∈ fs, PySem.W.findIn K (.ref C) f = some none) (hFN : FN c = fs.reverse) (hz : fs.length ≤ 1000) (h : DA K env tA rA) :
    DM K (.xs K mg FN R W xe) env (tMkO C (spI K fs) [] tA) (rA.bind (mkX c fs.length)) := fun σ G H Q x s g e q => by
  obtain ⟨ds, e1, e2⟩ := bind_some e
  unfold mkX at e2
  by_cases hc : ds.length = fs.length ∧ fs.length ≠ 0
  · rw [if_pos hc] at e2
    cases e2
    refine h σ G H _ ds s g e1 fun vs G1 H1 E1 h1 => ⟨by rw [dpa_len h1, hc.1]; exact hz, fun a ha => ?_⟩
    refine ⟨a, C, vs, by rw [List.append_nil], by rw [dpa_len h1, hc.1], T, hno, upd_same, fun d H2 ea ed hd ne oth => ⟨rfl, d, _, ea, ed, ?_, ?_⟩⟩
    · rw [upd_ne ne] at hd; exact hd
    · rw [upd_ne ne] at hd
      have eq : upd (del H2 a) d (.xd (fs.zip vs).reverse) = upd H1 d (.xd (fs.zip vs).reverse) := by
        funext b
        by_cases hb : b = d
        · subst hb; rw [upd_same, upd_same]
        · rw [upd_ne hb, upd_ne hb]
          by_cases hba : b = a
          · subst hba; rw [del_same, ha]
          · rw [del_ne hba, oth b hba hb, upd_ne hba]
      rw [eq]
      have gd : G1 d = none := E1.gh.free hd
      refine q _ _ (upd G1 d (.xd (fs.zip vs).reverse)) _ (E1.trans (Ext.new E1.gh hd)) ⟨C, hC, rfl, .inr ⟨d, vs.reverse, rfl, ?_, dpa_mono (same_upd gd) _ _ (dpa_rev h1), ?_⟩⟩
      · rw [upd_same, hFN]
        refine congrArg (fun z => some (HO.xd z)) ?_
        rw [List.zip_eq_zipWith, List.zip_eq_zipWith, List.reverse_zipWith]
        rw [dpa_len h1, hc.1]
      · intro z
        have := congrArg List.length z
        rw [List.length_reverse, List.length_nil] at this
        exact hc.2 (hc.1 ▸ this)
  · rw [if_neg hc] at e2; cases e2
/-- what the module says of an own class with an own __init__ that keeps fields -/
structure XFld (P : Program) (w : World) (K : PySem.W.Frag) (mg : Str → Option Value) (base : Heap) (c : Str) (C : Addr) (fs : List Str) : Prop where
  g : mg c = some (.ref C)
  o : OexC K C
  r : ∀ X : Cx, X.K = K → Raises X (.ref C)
  n : ∀ f ∈ fs, PySem.W.findIn K (.ref C) f = some none
  x : XfC K C
  i : ∃ fI fd ps, PySem.W.findIn K (.ref C) "__init__" = some (some (.ref fI)) ∧ PySem.W.typeIn K (.ref fI) = some (.type "function") ∧ FnOk P w K mg base CX0 1 fI fd ps (spI K fs) ∧ Binds K fd ps []
end
/-- C(e, ..), C with an own __init__, made where nothing is handled: the exception's context is None -/
theorem pmk_oexN {X : Cx} {CX : CXT} {x : Str} {e : Expr} {es : List Expr} {ta : TA} {p pos : Pos} {C fI : Addr} {k : Nat} {fd : FuncData} {ps : List Str} {sp : Sp} (T : OexC X.K C)
    (iC : PySem.W.findIn X.K (.ref C) "__init__" = some (some (.ref fI))) (tI : PySem.W.typeIn X.K (.ref fI) = some (.type "function")) (F1 : FnOk X.prog X.w X.K X.mg X.base CX k fI fd ps sp) (hr : Room (k + 1) X.A) (hb : Binds X.K fd ps [])
    (hx : Passes CX X (fun _ _ _ => False)) (hg : Gl X x) (hm : X.mg x = some (.ref C)) (ha : PA X (e :: es) ta) (hdb : (x == ("__debug__" : Str)) = false := by decide)
    (he : starEach (e :: es) X.env = (false, eval e X.env) :: starEach es X.env := by rfl) (hpl : (backTo pos (starEach es X.env)).any (·.1) = false := by rfl) : L2N.PMk X (.Call (.Name x p) (e :: es) [] pos) (tMkO C sp [] ta) := by
  intro pins s σ H Q I h; obtain ⟨nm, q, N, bs, bm, sn, sub, ab, col, dd, k0, k1, k2, k3, k5, hC, hbm⟩ := T.cls
  refine wpAny_Call_Name_kw (ld_glob I hg hm (PySem.W.callWith_K (h₀ := X.base) I.ok.mod.kin T.kC (thn (ha.run pos pins s σ H _ I h) fun us s1 ⟨vs, H1, I1, r1, hz, q1⟩ => ⟨I1.kIn, ?_⟩) he hpl) hdb)
  show wpAny _ _ (call (.ref C) us) _ _ _; obtain ⟨hp, g, dr, tk, os⟩ := s1
  obtain ⟨E, hE⟩ : ∃ E : Addr, E = hp.objs.size + 1 := ⟨_, rfl⟩
  have hsz : hp.objs.size ≤ E := hE ▸ Nat.le_succ _
  have hq := q1 E (I1.hok.fresh hsz)
  obtain ⟨hp2, hh2⟩ : ∃ z : Heap, z = (hp.push (PySem.W.kdv_tup us)).push (PySem.HandSPX.excO C hp.objs.size) := ⟨_, rfl⟩
  have kk : ∀ b o, hp.get? b = some o → hp2.get? b = some o := fun b o z => by rw [hh2]; exact Heap.get?_push_of_some _ (Heap.get?_push_of_some _ z)
  have hget : hp2.get? E = some (PySem.HandSPX.excO C hp.objs.size) := by rw [hh2, hE]; heap_get
  have I2 : Inv X pins σ (upd H1 E (exo E C none)) ⟨hp2, g, dr, tk, os⟩ := I1.laid (t' := tk) (a := E) (o := exo E C none) (h' := hp2) kk hsz (exo_ok hget)
  have r2 : Vals (V.ref E :: (vs ++ [])) (Value.ref E :: us) := .cons rfl (by rw [List.append_nil]; exact r1)
  have hl : (Value.ref E :: us ++ []).length = ps.length := by
    have z := r2.length; rw [F1.len _ _ _ _ hq] at z; rw [List.append_nil]; exact z.symm
  have hus : us.length ≤ sizeLine := by rw [← Paired.length r1, sizeLine_eq]; omega
  have hb' := hb _ (Value.ref E :: us) I2.kIn hl
  rw [List.append_nil] at hb'
  have run := F1.run _ X.stack _ _ ⟨Value.ref E :: us, []⟩ (Value.ref E :: us) _ _ (fun _ _ _ => False) (hr.make C us []) (I2.env0.make C us []) hb' r2 hq
  subst hE; subst hh2
  refine wpAny_call (PySem.HandSPX.call_own F.excBase_ValueError (fun Y => PySem.HandSPX.refsVE_contains Y bm hbm) (I1.kIn _ _ hC) (PySem.W.looks_findIn I1.kIn iC) (fun self => PySem.W.bind_fn I1.kIn self tI) hus (codeAny_mono run fun r s' hq' => ?_))
  match r, hq' with
  | .error er, hq' => exact hx pins σ _ _ er s' I2 hq'
  | .ok (.ret u), hq' =>
    obtain ⟨v, H2, os2, bare2, un2, hok2, rv, ev, d, fs, ea, ed, hd1, q2⟩ := hq'
    subst ev; obtain ⟨h2, g2, d2, t2, os'⟩ := s'
    obtain ⟨t0, G, J, kG, ge, hoe, na⟩ := mk_end0 (d2 := d2) (t2 := t2) I1 hsz kk un2 hok2 os2 bare2 ea ed hd1
    exact ⟨rv, _, _, _, ⟨G, g2, d2, t2, os'⟩, _, .ref C, some d, rfl, J, kG, ge, hoe, ⟨rfl, rfl, fun vs z => by cases z; rfl⟩, rfl, rfl, na, rfl, bare2, raises_own T.exC T.tyC, q2⟩
  | .ok .next, hq' => exact False.elim hq'
  | .ok .brk, hq' => exact False.elim hq'
  | .ok .cont, hq' => exact False.elim hq'
section
variable {X : Cx} {C : Addr} {e : Expr} {es : List Expr} {ta : TA} {P : Program} {w : World} {K : PySem.W.Frag} {mg : Str → Option Value} {base : Heap}
theorem kRaiseF {W : WX} {x : Str} {p pos pos2 : Pos} {fs : List Str} {k : Nat} (K : PySem.W.Frag) (c : XFld P w K mg base x C fs) (hr : Room k X.A) (hk : 2 ≤ k) (tk : L2N.Takes X W) (hg : Gl X x) (ha : PA X (e :: es) ta)
    (h1 : X.prog = P := by rfl) (h2 : X.w = w := by rfl) (h3 : X.K = K := by rfl) (h4 : X.mg = mg := by rfl) (h5 : X.base = base := by rfl) (hc : X.calm = true := by rfl) (hdb : (x == ("__debug__" : Str)) = false := by decide)
    (he : starEach (e :: es) X.env = (false, eval e X.env) :: starEach es X.env := by rfl) (hpl : (backTo pos (starEach es X.env)).any (·.1) = false := by rfl) :
    PS X (.Raise (some (.Call (.Name x p) (e :: es) [] pos)) none pos2) (fun _ σ H => tMkO C (spI K fs) [] ta σ H fun cls d H' => W cls d σ H') := by
  subst h1; subst h2; subst h3; subst h4; subst h5
  obtain ⟨fI, fd, ps, i1, i2, i3, i4⟩ := c.i
  exact L2N.ps_raise hc tk (pmk_oexN c.o i1 i2 i3 (hr.mono hk) i4 pass0 hg c.g ha hdb he hpl)
end
/-! #### in the suite -/
theorem call_isF {X : Cx} {a D : Addr} {oe : Obj} {d : Option Addr} {pn : List (Addr × Obj)} (C : ExcC X.K D) (hz : Zc (.ref D) d oe) (hf : ∃ vs, oe.data = .fields vs) :
    CallR (X.suite a ((a, oe) :: pn)) (.builtin "isinstance") (fun xs H Q => (d = none ∨ ∃ dd fs, d = some dd ∧ H dd = some (.xd fs)) ∧ rIsE X.K D a xs H Q) := by
  intro pins s σ H xs us Q I r ⟨hd, c, cv, b, e0, hcv, e, q⟩
  subst e0
  match r with
  | .cons rx (.cons rt .nil) =>
    cases rx
    have ec := hcv _ rt
    subst ec
    obtain ⟨hget, _⟩ := I.pin (a, oe) (List.mem_append.mpr (.inl List.mem_cons_self))
    obtain ⟨vs, hv⟩ := hf
    obtain ⟨oc, od, oda, osl⟩ := oe
    obtain ⟨z1, z2⟩ := hz
    dsimp only at z1 z2 hv
    subst z1 z2 hv
    have J : ∃ odd, PySem.W.InstAt s.heap a ⟨.ref D, od, .fields vs, osl⟩ D odd := by
      rcases hd with rfl | ⟨dd, fs, rfl, h2⟩
      · exact ⟨none, hget, rfl, rfl, trivial⟩
      · have hx : ObjOk X.prog X.w H s.heap dd (.xd fs) := I.hok dd _ h2
        obtain ⟨mA, hns, _⟩ := hx
        obtain ⟨oo, ho, _⟩ := lookIn_ns hns
        exact ⟨some oo, hget, rfl, rfl, ho⟩
    obtain ⟨odd, J⟩ := J
    have hcl : (PySem.W.clsIn X.K D).isSome = true := by
      obtain ⟨cd, hc, _⟩ := PySem.W.any_some C.hd
      rw [hc]; rfl
    exact PySem.W.kia_one (PySem.W.kitx_exc hcl C.hg C.hk C.hs C.ha C.hn C.ht C.hm) I.kIn J e (fun z => nomatch z) fun tk => ⟨.bl b, H, I.kept (t' := tk) fun _ _ z => z, rfl, q⟩
def rIsF (K : PySem.W.Frag) (a : Addr) (cls : Value) (d : Option Addr) : List V → Hp → VK → Prop := fun xs H Q => ∃ D, cls = .ref D ∧ ExcC K D ∧ (d = none ∨ ∃ dd fs, d = some dd ∧ H dd = some (.xd fs)) ∧ rIsE K D a xs H Q
theorem kIsF {X : Cx} {a : Addr} {oe : Obj} {pn : List (Addr × Obj)} {cls : Value} {d : Option Addr} (K : PySem.W.Frag) (hz : Zc cls d oe) (hf : ∃ vs, oe.data = .fields vs) (h : X.K = K := by rfl) : CallR (X.suite a ((a, oe) :: pn)) (.builtin "isinstance") (rIsF K a cls d) := by
  subst h
  intro pins s σ H xs us Q I r ⟨D, e1, C, hh⟩
  subst e1
  exact call_isF C hz hf pins s σ H xs us Q I r hh
section
variable {K : PySem.W.Frag} {mg : Str → Option Value} {FN : Str → List Str} {env : En}
def isFO (tab : XTab) (x : Xd) (C : Str) : Option D := (tabX tab x.1 C).map PyData.bool
theorem dv_isF {a : Addr} {cls : Value} {d : Option Addr} {x : Xd} {i : Nat} {tab : XTab} {CV : Str → Value} {C : Str} {y : V} (T : XTok K mg tab CV) (hy : ∀ u, RelV y u → u = CV C) (h : env[i]? = some (Sl.xn K mg FN a cls d x) := by rfl) :
    DV K env (tCB (rIsF K a cls d) (tCons (tVar i) (tCons (tC y) tNil))) (isFO tab x C) := fun σ G H Q r s g e q => by
  obtain ⟨b, e1, e2⟩ := map_some e
  subst e2
  obtain ⟨o, h1, h2⟩ := s.at' i _ h
  obtain ⟨h3, Cc, g1, g2, g3⟩ := h2 rfl
  subst h3
  obtain ⟨f, k1, k2, k3, _⟩ := T.all.get (tabX_mem e1)
  have k1' : mg x.1 = some (.ref f) := k1
  rw [g1] at k1'; cases k1'
  refine ⟨_, h1, Cc, g2, k2, ?_, y, CV C, b, rfl, hy, k3, q _ G H (Ext.refl g) (.bl b)⟩
  rcases g3 with ⟨g3, _⟩ | ⟨dd, vs, g3, g4, _⟩
  · exact .inl g3
  · exact .inr ⟨dd, _, g3, g _ _ g4⟩
/-- e.f -/
def fldO (c : Str) (fs : List Str) (x : Xd) (f : Str) : Option D := if x.1 = c then (fs.zip x.2).lookup f else none
theorem dpa_lookup {G : Hp} {f : Str} {d : D} : ∀ {fs : List Str} {vs : List V} {ds : List D}, DpAll K G vs ds → (fs.zip ds).lookup f = some d → ∃ v, (fs.zip vs).lookup f = some v ∧ Dp K G v d
  | [], _, _, _, e => by simp at e
  | _ :: _, _, _, .nil, e => by simp at e
  | n :: fs, _, _, .cons (v := v) (d := d0) h t, e => by
    rw [List.zip_cons_cons, List.lookup_cons] at e
    rw [List.zip_cons_cons, List.lookup_cons]
    cases hc : f == n with
    | true => rw [hc] at e; cases e; exact ⟨_, rfl, h⟩
    | false => rw [hc] at e; exact dpa_lookup t e
theorem dv_fld {P : Program} {w : World} {base : Heap} {C a : Addr} {cls : Value} {d : Option Addr} {x : Xd} {i : Nat} {c f : Str} {fs : List Str} (F : XFld P w K mg base c C fs) (hFN : FN c = fs.reverse) (h : env[i]? = some (Sl.xn K mg FN a cls d x) := by rfl) :
    DV K env (tXf a cls d C f (tVar i)) (fldO c fs.reverse x f) := fun σ G H Q r s g e q => by
  unfold fldO at e
  by_cases hc : x.1 = c
  · rw [if_pos hc] at e
    obtain ⟨o, h1, h2⟩ := s.at' i _ h
    obtain ⟨h3, Cc, g1, g2, g3⟩ := h2 rfl
    subst h3
    have : Cc = C := by
      have k := F.g
      rw [hc, k] at g1; cases g1; rfl
    subst this
    refine ⟨_, h1, rfl, g2, ?_⟩
    rcases g3 with ⟨_, g3⟩ | ⟨dd, vs, g3, g4, g5, _⟩
    · rw [g3] at e; simp at e
    · rw [hc, hFN] at g4
      obtain ⟨v, l, hv⟩ := dpa_lookup g5 e
      exact ⟨dd, _, v, g3, g _ _ g4, l, q v G H (Ext.refl g) hv⟩
  · rw [if_neg hc] at e; cases e
theorem kXf {P : Program} {w : World} {base : Heap} {X : Cx} {a C : Addr} {oe : Obj} {cls : Value} {d : Option Addr} {pn : List (Addr × Obj)} {e : Expr} {te : TE} {pos : Pos} {n c : Str} {fs : List Str} (K : PySem.W.Frag) (F : XFld P w K mg base c C fs) (hn : n ∈ fs)
    (hz : Zc cls d oe) (hf : ∃ vs, oe.data = .fields vs) (he : PE (X.suite a ((a, oe) :: pn)) e te) (hK : X.K = K := by rfl) (hb : attributeBase e n X.env (eval e X.env) = eval e X.env := by rfl) :
    PE (X.suite a ((a, oe) :: pn)) (.Attribute e n pos) (tXf a cls d C n te) := by
  subst hK
  exact pe_xf F.x (F.n n hn) hz hf he hb
end
/-! #### what the written part says of such a class, by looking -/
def oexIn (K : PySem.W.Frag) (C : Addr) : Bool :=
  (match K.lookup C with
    | some ⟨.type "type", _, .cls cd, sl⟩ =>
      (match cd.mro, sl.toList with
        | .ref B :: bm, [_, _, _, _, some (.builtin z), _] => B == C && (z == "ValueError.__new__" && (!cd.hasDel && (cd.hasDict && PySem.HandSPX.refsVE bm)))
        | _, _ => false)
    | _ => false) && (decide (PySem.W.findIn K (.ref C) "__setattr__" = some (some (.builtin "object.__setattr__"))) && decide (PySem.W.keepIn K (.ref C) = true))
theorem oex_of {K : PySem.W.Frag} {C : Addr} (h : oexIn K C = true) (hs : PySem.W.subIn K (.ref C) (.type "BaseException") = some true) (ht : PySem.W.typeIn K (.ref C) = some (.type "type")) : OexC K C := by
  obtain ⟨h1, h2⟩ := Bool.and_eq_true_iff.mp h
  obtain ⟨h2, h3⟩ := Bool.and_eq_true_iff.mp h2
  refine ⟨?_, of_decide_eq_true h2, hs, ht, of_decide_eq_true h3⟩
  split at h1
  · rename_i dd cd sl ho
    split at h1
    · rename_i B bm k0 k1 k2 k3 z k5 hm hsl
      simp only [Bool.and_eq_true, beq_iff_eq, Bool.not_eq_true'] at h1
      obtain ⟨e1, e2, e3, e4, e5⟩ := h1
      subst e1 e2
      obtain ⟨nm, bs, mro, N, q, hd, sn, sub, ab, col, del⟩ := cd
      dsimp only at hm e3 e4
      subst hm e3 e4
      obtain ⟨l⟩ := sl
      dsimp only at hsl
      subst hsl
      exact ⟨nm, q, N, bs, bm, sn, sub, ab, col, dd, k0, k1, k2, k3, k5, ho, e5⟩
    · cases h1
  · cases h1
section
variable {P : Program} {w : World} {K : PySem.W.Frag} {mg : Str → Option Value} {base : Heap}
theorem init_fn1 {qual : Str} {st : Stmt} {f : Addr} {fd : FuncData} {s n : Str} (F : Fun K "__init__" qual st f fd) (S : FnScope [s, n] [s, n] (defScope st))
    (hb : ∀ (cdv : Value) (A : Around) (outer : List Env) (s' : Shared) (H : Hp) (E : XK), PSs (cxOf CX0 P w K mg base [s, n] qual (defScope st) f cdv A outer s' H E).nox (defBody st) (tOst K n (tVar 0) (tVar 1))) :
    FnOk P w K mg base CX0 1 f fd [s, n] (spI K [n]) :=
  F.ok S (fun vs H Q E h => by
    obtain ⟨a, C, ys, rfl, hl, _⟩ := h
    show ys.length + 1 = 2
    rw [hl]; rfl) fun cdv A outer s' H vs Q E hr h => ⟨_, hb cdv A outer s' H E, init1 (fun i hi hv => start_at (by rw [hv]; rfl) i hi) h⟩
theorem init_fn2 {qual : Str} {st : Stmt} {f : Addr} {fd : FuncData} {s n m : Str} (F : Fun K "__init__" qual st f fd) (S : FnScope [s, n, m] [s, n, m] (defScope st))
    (hb : ∀ (cdv : Value) (A : Around) (outer : List Env) (s' : Shared) (H : Hp) (E : XK), PSs (cxOf CX0 P w K mg base [s, n, m] qual (defScope st) f cdv A outer s' H E).nox (defBody st) (tSeq (tOst K n (tVar 0) (tVar 1)) (tOst K m (tVar 0) (tVar 2)))) :
    FnOk P w K mg base CX0 1 f fd [s, n, m] (spI K [n, m]) :=
  F.ok S (fun vs H Q E h => by
    obtain ⟨a, C, ys, rfl, hl, _⟩ := h
    show ys.length + 1 = 3
    rw [hl]; rfl) fun cdv A outer s' H vs Q E hr h => ⟨_, hb cdv A outer s' H E, init2 (fun i hi hv => start_at (by rw [hv]; rfl) i hi) h⟩
end
/-! #### raise -/
def raO {α β : Type} (rx : Option Xd) : Out α β := match rx with
  | some x => .xc x
  | none => .no
section
variable {K : PySem.W.Frag} {mg : Str → Option Value} {FN : Str → List Str} {R : RR} {W : WX} {xe env : En} {α β : Type} {en : α → En} {eb : β → En}
theorem ds_raiseF {t : L2.St → Hp → XK → Prop} {rx : Option Xd} (h : DM K (.xs K mg FN R W xe) (noOw env) t rx) (hx : Le xe env) : DS K (.xs K mg FN R W xe) env (fun _ σ H => t σ H fun cls d H' => W cls d σ H') en eb (raO rx : Out α β) := by
  have := ds_raise (en := en) (eb := eb) (α := α) (β := β) h hx
  cases rx with
  | none => exact this
  | some x => exact this
end
/-- the first def of a class -/
def clsS (s : Stmt) : Stmt := match s with
  | .ClassDef _ _ _ b _ _ _ _ _ _ _ => b.getD 0 (.Pass ⟨0, 0, 0, 0⟩)
  | _ => .Pass ⟨0, 0, 0, 0⟩
end Dl

set_option Elab.async false
set_option linter.all false
set_option maxRecDepth 100000
set_option maxHeartbeats 400000
namespace Dl
open PySem PySem.Spec PyProof.Rows L2
/-! ### for x in ys + zs: x[2].append(c), both all new -/
section
variable {K : PySem.W.Frag} {M : Md} {env : En} {β : Type} {eb : β → En}
/-- a, b, c = x, x a triple of someone else: so are its parts -/
theorem ds_unpFo3 {n i j k : Nat} {d : D} (hn : env[n]? = some (Sl.fo d)) : DS K M env (tAsg (tVar n) (gTup K 3 (gCons (gName i) (gCons (gName j) (gCons (gName k) gNil))))) (fun (p : D × D × D) => ((env.set i (.fo p.1)).set j (.fo p.2.1)).set k (.fo p.2.2)) eb (toO (threeO ((some d).bind asU))) := fun σ G0 H0 B G H T s q => by
  cases e : threeO ((some d).bind asU) with
  | none => rw [e] at q; exact q.elim
  | some p =>
    rw [e] at q
    obtain ⟨ds, e1, e2⟩ := bind_some e
    have eu : asU d = some ds := e1
    have := asU_some eu; subst this
    match ds, e1, eu, e2 with
    | [a, b, c], e1, eu, e2 =>
      cases e2
      obtain ⟨fp, f1, _⟩ := s.fp
      obtain ⟨o, so, _, v, rfl, hv⟩ := f1 n _ hn
      cases hv with
      | tup hs hd =>
        refine ⟨_, so, _, _, rfl, sqt_mono s.ext.hh hs, by rw [dpa_len hd]; rfl, ?_⟩
        cases hd with
        | cons r t => cases t with
          | cons r2 t => cases t with
            | cons r3 t =>
              cases t
              refine ⟨_, _, rfl, _, _, rfl, _, _, rfl, rfl, q _ G H ?_⟩
              have s1 := s.put (Ext.refl s.ext.gh) (sl := .fo a) (S := []) i ⟨rfl, _, rfl, r⟩ fun x hx => absurd hx List.not_mem_nil
              have s2 := s1.put (Ext.refl s.ext.gh) (sl := .fo b) (S := []) j ⟨rfl, _, rfl, r2⟩ fun x hx => absurd hx List.not_mem_nil
              exact s2.put (Ext.refl s.ext.gh) (sl := .fo c) (S := []) k ⟨rfl, _, rfl, r3⟩ fun x hx => absurd hx List.not_mem_nil
def Spoils2 (K : PySem.W.Frag) (env : En) (i i2 : Nat) (js : List Nat) (d d2 : D) (t : TS) : Prop :=
  ∀ (σ : L2.St) (H : Hp) (v w : V) (S : List Addr) (T : Ends), SE K env σ H → σ[i]? = some (some v) → σ[i2]? = some (some w) → DpN K H S v d → DpN K H S w d2 → (∀ a ∈ S, Lst (H a)) →
    (∀ (σ' : L2.St) (H' : Hp), σ'.length = σ.length → (∀ j, j ∉ js → σ'[j]? = σ[j]?) → (∀ b o, b ∉ S → H b = some o → H' b = some o) → (∀ b ∈ S, Lst (H' b)) → T.nx σ' H') → t T σ H
mutual
theorem dpn_wide {H : Hp} {S S' : List Addr} (hs : ∀ a ∈ S, a ∈ S') : ∀ {v : V} {d : D}, DpN K H S v d → DpN K H S' v d
  | _, _, .non => .non
  | _, _, .bl b => .bl b
  | _, _, .int i => .int i
  | _, _, .str x => .str x
  | _, _, .lst m h t => .lst (hs _ m) h (dpns_wide hs t)
  | _, _, .tup h t => .tup h (dpns_wide hs t)
theorem dpns_wide {H : Hp} {S S' : List Addr} (hs : ∀ a ∈ S, a ∈ S') : ∀ {vs : List V} {ds : List D}, DpNs K H S vs ds → DpNs K H S' vs ds
  | _, _, .nil => .nil
  | _, _, .cons h t => .cons (dpn_wide hs h) (dpns_wide hs t)
end
theorem ds_spoil2 {i i2 : Nat} {js : List Nat} {d d2 : D} {t : TS} (hi : env[i]? = some (.nu d)) (hi2 : env[i2]? = some (.nu d2)) (hne : i ≠ i2) (ht : Spoils2 K env i i2 js d d2 t) (hij : i ∉ js) (hij2 : i2 ∉ js) (hj : ∀ j ∈ js, env[j]? = some .un ∨ env.length ≤ j) :
    DS K M env t (fun _ : Unit => (env.set i .wa).set i2 .wa) eb (.nx () : Out Unit β) := fun σ G0 H0 B G H T s q => by
  obtain ⟨F, f1, f2, f3⟩ := s.fp
  obtain ⟨o, h1, v, rfl, h2, h3⟩ := f1 i _ hi
  obtain ⟨o2, k1, w, rfl, k2, k3⟩ := f1 i2 _ hi2
  have hap : ∀ {b : Addr}, b ∉ F i ++ F i2 → b ∉ F i ∧ b ∉ F i2 := fun h => ⟨fun z => h (List.mem_append_left _ z), fun z => h (List.mem_append_right _ z)⟩
  refine ht σ H v w (F i ++ F i2) T s.all h1 k1 (dpn_wide (fun a h => List.mem_append_left _ h) h2) (dpn_wide (fun a h => List.mem_append_right _ h) k2) (fun a ha => (List.mem_append.mp ha).elim (h3 a) (k3 a)) fun σ' H' hl hσ hk hL => q σ' G H' ?_
  have fr : ∀ b ∈ F i ++ F i2, G b = none ∧ H0 b = none := fun b hb => (List.mem_append.mp hb).elim (fun z => ⟨(f2 i b z).1, (f2 i b z).2.1⟩) fun z => ⟨(f2 i2 b z).1, (f2 i2 b z).2.1⟩
  have hjn : ∀ j ∈ js, ∀ u : Sl, env[j]? = some u → u = .un := fun j h u hu => by
    rcases hj j h with e | e
    · rw [e] at hu; cases hu; rfl
    · rw [List.getElem?_eq_none e] at hu; cases hu
  refine ⟨⟨s.ext.gg, fun b u e => hk b u (fun hb => ?_) (s.ext.hh b u e), fun b u e => hk b u (fun hb => ?_) (s.ext.gh b u e), s.ext.nw⟩, s.bg, by rw [List.length_set, List.length_set, hl]; exact s.len, F, fun j e hj' => ?_, fun j a hj' => ?_, f3⟩
  · have := (fr b hb).2; rw [this] at e; cases e
  · have := (fr b hb).1; rw [this] at e; cases e
  · rcases set_some hj' with ⟨rfl, rfl, _⟩ | ⟨ne2, hj'⟩
    · exact ⟨_, (hσ _ hij2).trans k1, trivial⟩
    rcases set_some hj' with ⟨rfl, rfl, _⟩ | ⟨ne, hj'⟩
    · exact ⟨_, (hσ _ hij).trans h1, trivial⟩
    · obtain ⟨o', m1, m2⟩ := f1 j e hj'
      have keq : ∀ b, H b ≠ none → b ∉ F i ++ F i2 → H' b = H b := fun b hb n => by
        cases e : H b with
        | none => exact absurd e hb
        | some u => exact hk b u n e
      by_cases c : j ∈ js
      · have := hjn j c e hj'
        subst this
        have jl : j < σ'.length := by
          rw [hl]
          rcases Nat.lt_or_ge j σ.length with z | z
          · exact z
          · rw [List.getElem?_eq_none z] at m1; cases m1
        exact ⟨σ'[j], List.getElem?_eq_getElem jl, m2.1, trivial⟩
      · refine ⟨o', (hσ j c).trans m1, e.pm (Same.refl G) (fun a ha => keq a (f2 j a ha).2.2.1 fun z => ?_) (fun b hb => keq b (fun z => by rw [z] at hb; exact hb) fun z => ?_) m2⟩
        · rcases List.mem_append.mp z with z | z
          · exact f3 j i a (Ne.symm ne) ha z
          · exact f3 j i2 a (Ne.symm ne2) ha z
        · rcases List.mem_append.mp z with z | z
          · exact (f2 i b z).2.2.2 hb
          · exact (f2 i2 b z).2.2.2 hb
  · obtain ⟨h3', h4, h5⟩ := f2 j a hj'
    refine ⟨h3', h4, ?_⟩
    by_cases z : a ∈ F i ++ F i2
    · exact (hL a z).ow
    · cases e : H a with
      | none => exact absurd e h5.1
      | some u => rw [hk a u z e, ← e]; exact h5
theorem spoils_E {i i2 j : Nat} {c : Int} {ds es : List D} (h : okB ds = true) (h' : okB es = true) (hl : ds.length + es.length ≤ 100000) (hjl : j < env.length) :
    Spoils2 K env i i2 [j] (.list ds) (.list es) (tFor (iAny K (tOp rAddX (tVar i) (tVar i2))) (gName j) (tDrop (tBM K "list" rAppend (tOp (rIx K) (tVar j) (tC (.int 2))) (tCons (tC (.int c)) tNil)))) := by
  intro σ H v w S T sE hv hw hn hn2 hL q
  match hn, hn2 with
  | .lst (a := p) (xs := xs1) pS hp hall, .lst (a := p2) (xs := xs2) pS2 hp2 hall2 =>
    have hlen := dpns_len hall
    have hlen2 := dpns_len hall2
    refine .inl ⟨.ref p, hv, .ref p2, hw, .inr (.inr ⟨p, p2, xs1, xs2, rfl, rfl, .inl hp, .inl hp2, Nat.le_trans (by omega : xs1.length + xs2.length ≤ 1000000) million_le, fun r hr => ?_⟩)⟩
    obtain ⟨xs, hxs⟩ : ∃ xs, xs = xs1 ++ xs2 := ⟨_, rfl⟩
    have inner : ∀ k (_ : k < xs.length), ∃ b u0 u1 a ys, xs[k]? = some (.ref b) ∧ SqT K H b [u0, u1, .ref a] ∧ H a = some (.lst ys) ∧ ys.length ≤ 100000 ∧ a ∈ S := fun k hk => by
      rw [hxs] at hk ⊢
      rw [List.length_append] at hk
      by_cases z : k < xs1.length
      · rw [List.getElem?_append_left z]; exact okB_inner h hall k z
      · rw [List.getElem?_append_right (by omega)]; exact okB_inner h' hall2 (k - xs1.length) (by omega)
    have xl : xs.length ≤ 100000 := by rw [hxs, List.length_append]; omega
    rw [← hxs]
    have rS : r ∉ S := fun z => by
      obtain ⟨ys, e⟩ := hL r z
      rw [hr] at e; cases e
    refine ⟨r, rfl, ⟨xs, .inl (.inl upd_same)⟩, ?_⟩
    have sz : ∀ b o, H b = some o → upd H r (.lst xs) b = some o := fun b o e => by
      rw [upd_ne (ne_of_none e hr)]; exact e
    refine ⟨fun n m σ' H' => m = xs.length - n ∧ n ≤ xs.length ∧ σ'.length = σ.length ∧ (∀ k, k ≠ j → σ'[k]? = σ[k]?) ∧ H' r = some (.lst xs) ∧ (∀ b o, b ∉ S → H b = some o → H' b = some o) ∧ (∀ b ∈ S, Lst (H' b)) ∧
      (∀ k (hk : k < xs.length), ∃ b u0 u1 a ys, xs[k]? = some (.ref b) ∧ SqT K H b [u0, u1, .ref a] ∧ H' a = some (.lst ys) ∧ ys.length ≤ 100000 + n ∧ a ∈ S),
      ⟨xs.length, by omega, Nat.zero_le _, rfl, fun _ _ => rfl, upd_same, fun b o _ e => sz b o e, fun b hb => ?_, fun k hk => ?_⟩, ?_⟩
    · obtain ⟨ys, e⟩ := hL b hb; exact ⟨ys, sz _ _ e⟩
    · obtain ⟨b, u0, u1, a, ys, e1, e2, e3, e4, e5⟩ := inner k hk
      exact ⟨b, u0, u1, a, ys, e1, e2, sz _ _ e3, e4, e5⟩
    rintro n m σ' H' ⟨rfl, hn', l', s', r', k', L', I'⟩
    by_cases hlt : n < xs.length
    · right
      refine ⟨⟨xs, xs[n], .inl (.inl r'), List.getElem?_eq_getElem hlt⟩, fun σ'' H'' => ∃ m', m' < xs.length - n ∧ (m' = xs.length - (n + 1) ∧ n + 1 ≤ xs.length ∧ σ''.length = σ.length ∧ (∀ k, k ≠ j → σ''[k]? = σ[k]?) ∧ H'' r = some (.lst xs) ∧ (∀ b o, b ∉ S → H b = some o → H'' b = some o) ∧ (∀ b ∈ S, Lst (H'' b)) ∧
        (∀ k (hk : k < xs.length), ∃ b u0 u1 a ys, xs[k]? = some (.ref b) ∧ SqT K H b [u0, u1, .ref a] ∧ H'' a = some (.lst ys) ∧ ys.length ≤ 100000 + (n + 1) ∧ a ∈ S)), fun σ'' H'' h => h, fun x H3 hy => ?_⟩
      obtain ⟨rfl, hx⟩ := hy
      have ex := hx xs (.inl (.inl r'))
      obtain ⟨b, u0, u1, a, ys, e1, e2, e3, e4, e5⟩ := I' n hlt
      rw [e1] at ex; cases ex
      have jl : j < σ'.length := by rw [l', sE.len]; exact hjl
      have ne : r ≠ a := fun z => rS (by rw [z]; exact e5)
      refine ⟨.ref b, List.getElem?_set_self jl, .inr (.inl ⟨b, [u0, u1, .ref a], 2, .ref a, rfl, rfl, sqt_keep k' hL e2, rfl, ?_⟩)⟩
      refine ⟨Or.inl ⟨rfl, ys, .inl (.inl e3)⟩, a, ys, .int c, rfl, rfl, e3, Nat.lt_of_lt_of_le (by omega : ys.length < 300000) big_le, ?_⟩
      refine ⟨_, by omega, rfl, hlt, by rw [List.length_set]; exact l', fun k hk => by rw [List.getElem?_set_ne (Ne.symm hk)]; exact s' k hk, by rw [upd_ne ne]; exact r', fun b o hb e => by rw [upd_ne (fun z => hb (by rw [z]; exact e5))]; exact k' b o hb e, fun b hb => ?_, fun k hk => ?_⟩
      · by_cases z : b = a
        · subst z; exact ⟨_, upd_same⟩
        · rw [upd_ne z]; exact L' b hb
      · obtain ⟨b2, w0, w1, a2, ys2, m1, m2, m3, m4, m5⟩ := I' k hk
        by_cases z : a2 = a
        · subst z
          rw [e3] at m3; cases m3
          exact ⟨b2, w0, w1, a2, _, m1, m2, upd_same, by rw [List.length_append]; simp; omega, m5⟩
        · exact ⟨b2, w0, w1, a2, ys2, m1, m2, by rw [upd_ne z]; exact m3, by omega, m5⟩
    · left
      have : n = xs.length := by omega
      subst this
      exact ⟨⟨xs, .inl (.inl r'), Nat.le_refl _⟩, q σ' H' l' (fun k hk => s' k (by simpa using hk)) k' L'⟩
def spE : D → D → Option Unit
  | .list ds, .list es => if okB ds = true ∧ okB es = true ∧ ds.length + es.length ≤ 100000 then some () else none
  | _, _ => none
theorem ds_spE {i i2 j : Nat} {c : Int} {v w : D} (hi : env[i]? = some (Sl.nu v)) (hi2 : env[i2]? = some (Sl.nu w)) (hne : i ≠ i2) (hij : i ∉ [j]) (hij2 : i2 ∉ [j]) (hj : ∀ k ∈ [j], env[k]? = some Sl.un ∨ env.length ≤ k) (hjl : j < env.length) :
    DS K M env (tFor (iAny K (tOp rAddX (tVar i) (tVar i2))) (gName j) (tDrop (tBM K "list" rAppend (tOp (rIx K) (tVar j) (tC (.int 2))) (tCons (tC (.int c)) tNil)))) (fun _ : Unit => (env.set i .wa).set i2 .wa) eb (toO (spE v w) : Out Unit β) := by
  match v, w with
  | .list ds, .list es =>
    show DS K M env _ _ eb (toO (if okB ds = true ∧ okB es = true ∧ ds.length + es.length ≤ 100000 then some () else none) : Out Unit β)
    by_cases h : okB ds = true ∧ okB es = true ∧ ds.length + es.length ≤ 100000
    · rw [if_pos h]
      exact ds_spoil2 hi hi2 hne (spoils_E (c := c) h.1 h.2.1 h.2.2 hjl) hij hij2 hj
    · rw [if_neg h]; exact fun σ G0 H0 B G H T s q => q.elim
  | .list _, .none => exact fun σ G0 H0 B G H T s q => q.elim
  | .list _, .bool _ => exact fun σ G0 H0 B G H T s q => q.elim
  | .list _, .int _ => exact fun σ G0 H0 B G H T s q => q.elim
  | .list _, .str _ => exact fun σ G0 H0 B G H T s q => q.elim
  | .list _, .dict _ => exact fun σ G0 H0 B G H T s q => q.elim
  | .dict _, _ => exact fun σ G0 H0 B G H T s q => q.elim
  | .list _, .tuple _ => exact fun σ G0 H0 B G H T s q => q.elim
  | .none, _ => exact fun σ G0 H0 B G H T s q => q.elim
  | .bool _, _ => exact fun σ G0 H0 B G H T s q => q.elim
  | .int _, _ => exact fun σ G0 H0 B G H T s q => q.elim
  | .str _, _ => exact fun σ G0 H0 B G H T s q => q.elim
  | .tuple _, _ => exact fun σ G0 H0 B G H T s q => q.elim
end
end Dl

set_option Elab.async false
set_option linter.all false
set_option maxRecDepth 100000
set_option maxHeartbeats 400000
namespace Dl
open PySem PySem.Spec PyProof.Rows L2
/-! ### defs as arguments; what is never come to -/
/-- the def that the module calls x -/
def Sl.fv (mg : Str → Option Value) (x : Str) : Sl := .plain (fun _ _ o => ∃ f, mg x = some (.ref f) ∧ o = some (.ref f)) fun _ h => h
/-- what an argument is: data, the def x, a dict of ints by data -/
inductive Kd where
  | d
  | f (x : Str)
  | k
def envK (mg : Str → Option Value) : List Kd → List D → Option En
  | [], [] => some []
  | .d :: fl, d :: ds => (envK mg fl ds).map fun e => .sh d :: e
  | .k :: fl, d :: ds => (asK d).bind fun m => (envK mg fl ds).map fun e => .wk m :: e
  | .f x :: fl, ds => (envK mg fl ds).map fun e => .fv mg x :: e
  | _, _ => none
/-- values as slots that own nothing tell them -/
inductive SlsOk (K : PySem.W.Frag) (G : Hp) : En → List V → Prop
  | nil : SlsOk K G [] []
  | cons {s : Sl} {v : V} {es : En} {vs : List V} : s.sm = true → s.v K G (some v) → SlsOk K G es vs → SlsOk K G (s :: es) (v :: vs)
theorem SlsOk.len {K : PySem.W.Frag} {G : Hp} : ∀ {es : En} {vs : List V}, SlsOk K G es vs → es.length = vs.length
  | _, _, .nil => rfl
  | _, _, .cons _ _ t => congrArg (· + 1) (SlsOk.len t)
theorem SlsOk.get {K : PySem.W.Frag} {G : Hp} : ∀ {es : En} {vs : List V} {i : Nat} {s : Sl}, SlsOk K G es vs → es[i]? = some s → ∃ v, vs[i]? = some v ∧ s.sm = true ∧ s.v K G (some v)
  | _, _, _, _, .nil, e => by simp at e
  | _, _, 0, _, .cons (v := v) h r _, e => by simp at e; subst e; exact ⟨v, rfl, h, r⟩
  | _, _, i + 1, s, .cons _ _ t, e => by
    obtain ⟨v, h1, h2⟩ := SlsOk.get (i := i) (s := s) t (by simpa using e)
    exact ⟨v, by simpa using h1, h2⟩
theorem start_any {K : PySem.W.Frag} {G H : Hp} {es : En} {vs : List V} {N : List Str} (g : Same G H) (h : SlsOk K G es vs) (hn : es.length ≤ N.length) :
    SS K (es ++ List.replicate (N.length - es.length) Sl.un) (L2.start N vs) G H G G H := by
  have hl := h.len
  have hsl : (L2.start N vs).length = N.length := by unfold L2.start; simp; omega
  refine ⟨Ext.refl g, Same.refl G, by rw [List.length_append, List.length_replicate, hsl]; omega, fun _ => [], fun i s hs => ?_, fun i a h => absurd h List.not_mem_nil, fun i j a _ h => absurd h List.not_mem_nil⟩
  rcases Nat.lt_or_ge i es.length with z | z
  · rw [List.getElem?_append_left z] at hs
    obtain ⟨v, hv, r1, r2⟩ := h.get hs
    refine ⟨some v, ?_, (s.pe r1).mpr ⟨rfl, r2⟩⟩
    unfold L2.start
    rw [List.getElem?_append_left (by rw [List.length_map]; omega), List.getElem?_map, hv]; rfl
  · rw [List.getElem?_append_right z] at hs
    have hr : i - es.length < N.length - es.length := by
      rcases Nat.lt_or_ge (i - es.length) (N.length - es.length) with q | q
      · exact q
      · rw [List.getElem?_eq_none (by rw [List.length_replicate]; exact q)] at hs; cases hs
    have hu := List.eq_of_mem_replicate (List.mem_of_getElem? hs)
    subst hu
    exact ⟨_, List.getElem?_eq_getElem (by rw [hsl]; omega), rfl, trivial⟩
def spXA (K : PySem.W.Frag) (mg : Str → Option Value) (FN : Str → List Str) (fl : List Kd) (m : List D → Option Rs) : Sp := fun vs H Q E => ∃ (G : Hp) (ds : List D) (es : En) (r : Rs), Same G H ∧ envK mg fl ds = some es ∧ SlsOk K G es vs ∧ m ds = some r ∧
  (∀ d, r = .ok d → ∀ v G' H', Ext G H G' H' → Dp K G' v d → Q v H') ∧ ∀ x, r = .xc x → ∀ cls dd G' H', Ext G H G' H' → XR K mg FN G' cls dd x → E cls dd H'
/-- as DfX, with arguments of other kinds too -/
structure DfXA (P : Program) (w : World) (K : PySem.W.Frag) (mg : Str → Option Value) (FN : Str → List Str) (base : Heap) (k : Nat) (x : Str) (ps : List Str) (fl : List Kd) (m : List D → Option Rs) : Prop where
  ex : ∃ f fd, mg x = some (.ref f) ∧ PySem.W.keepIn K (.ref f) = true ∧ Binds K fd ps [] ∧ FnOk P w K mg base (L2N.CX P w) k f fd ps (spXA K mg FN fl m)
theorem envK_len {mg : Str → Option Value} : ∀ {fl : List Kd} {ds : List D} {es : En}, envK mg fl ds = some es → es.length = fl.length
  | [], [], _, e => by cases e; rfl
  | .d :: fl, d :: ds, _, e => by
    obtain ⟨q, h, h2⟩ := map_some (show (envK mg fl ds).map (fun e => Sl.sh d :: e) = some _ from e)
    subst h2; exact congrArg (· + 1) (envK_len h)
  | .k :: fl, d :: ds, _, e => by
    obtain ⟨m, h0, h1⟩ := bind_some (show (asK d).bind (fun m => (envK mg fl ds).map fun e => Sl.wk m :: e) = some _ from e)
    obtain ⟨q, h, h2⟩ := map_some h1
    subst h2; exact congrArg (· + 1) (envK_len h)
  | .f x :: fl, ds, _, e => by
    obtain ⟨q, h, h2⟩ := map_some (show (envK mg fl ds).map (fun e => Sl.fv mg x :: e) = some _ by cases ds <;> exact e)
    subst h2; exact congrArg (· + 1) (envK_len h)
  | [], _ :: _, _, e => by cases e
  | .d :: _, [], _, e => by cases e
  | .k :: _, [], _, e => by cases e
section
variable {P : Program} {w : World} {K : PySem.W.Frag} {mg : Str → Option Value} {FN : Str → List Str} {base : Heap} {x qual : Str} {st : Stmt} {f : Addr} {fd : FuncData} {N ps : List Str} {k : Nat} {fl : List Kd}
theorem dfXA_mk {m : List D → Option Rs} (xe : En) (F : Fun K x qual st f fd) (S : FnScope N ps (defScope st)) (hm : mg x = some (.ref f)) (hb : Binds K fd ps []) (hl : fl.length = ps.length) (hN : ps.length ≤ N.length)
    (body : ∀ (cdv : Value) (A : Around) (outer : List Env) (s : Shared) (H : Hp) (E : XK), Room k (A.deeper (envOfC qual (defScope st) s.heap.objs.size f cdv)) →
      ∃ t, PSs (cxOf (L2N.CX P w) P w K mg base N qual (defScope st) f cdv A outer s H E) (defBody st) t ∧
        ∀ ds es r, envK mg fl ds = some es → m ds = some r → ∃ (β : Type) (eb : β → En) (α : Type) (en : α → En) (o : Out α β), DS K (.xs K mg FN (RtS K) (fun cls d _ H => E cls d H) xe) (es ++ List.replicate (N.length - es.length) Sl.un) t en eb o ∧ o.runX = some r) : DfXA P w K mg FN base (k + 1) x ps fl m := by
  refine ⟨f, fd, hm, F.kp, hb, ?_⟩
  refine okN F S (fun vs H Q E h => ?_) fun cdv A outer s H vs Q E hr h => ?_
  · obtain ⟨G, ds, es, r, _, e1, e2, _⟩ := h
    rw [← e2.len, envK_len e1]; exact hl
  · obtain ⟨t, h1, h2⟩ := body cdv A outer s H E hr
    refine ⟨t, h1, ?_⟩
    obtain ⟨G, ds, es, r, g, e1, e2, e, q1, q2⟩ := h
    obtain ⟨β, eb, α, en, o, hd, ho⟩ := h2 ds es r e1 e
    refine hd _ G H G G H _ (start_any g e2 (by rw [envK_len e1, hl]; exact hN)) ?_
    cases o with
    | nx a => cases ho; exact fun σ G' H' s => q1 _ rfl .non G' H' s.ext .non
    | rt d' => cases ho; exact fun v G' H' r => q1 _ rfl v G' H' r.1 r.2
    | bk b => cases ho
    | ct b => cases ho
    | no => cases ho
    | xc x => cases ho; exact fun σ G' H' cls dd s r => q2 _ rfl cls dd G' H' s.ext r
theorem kDfXA {X : Cx} {k : Nat} {x : Str} {ps : List Str} {e : Expr} {es : List Expr} {t : TA} {p pos : Pos} {W : WX} (K : PySem.W.Frag) {m : List D → Option Rs} (d : DfXA P w K mg FN base k x ps fl m) (hr : Room k X.A) (hg : Gl X x) (tk : L2N.Takes X W) (ha : PA X (e :: es) t)
    (h1 : X.prog = P := by rfl) (h2 : X.w = w := by rfl) (h3 : X.K = K := by rfl) (h4 : X.mg = mg := by rfl) (h5 : X.base = base := by rfl) (hdb : (x == ("__debug__" : Str)) = false := by decide)
    (he : starEach (e :: es) X.env = (false, eval e X.env) :: starEach es X.env := by rfl) (hpl : (backTo pos (starEach es X.env)).any (·.1) = false := by rfl) :
    PE X (.Call (.Name x p) (e :: es) [] pos) (tCallS (spXA K mg FN fl m) (WE W) t) := by
  subst h1; subst h2; subst h3; subst h4; subst h5
  obtain ⟨f, fd, g1, g2, g3, g4⟩ := d.ex
  exact pe_callS g4 hr hg g1 g2 g3 (fun σ => L2N.passAt tk σ) ha hdb he hpl
end
section
variable {K : PySem.W.Frag} {mg : Str → Option Value} {FN : Str → List Str} {R : RR} {W : WX} {xe env : En} {ta : TE} {tA : TA} {ra : Option D} {rA : Option (List D)} {fl : List Kd} {α β : Type} {en : α → En} {eb : β → En}
def DAK (K : PySem.W.Frag) (mg : Str → Option Value) (env : En) (fl : List Kd) (t : TA) (r : Option (List D)) : Prop := ∀ σ (G H : Hp) (Q : List V → Hp → Prop) ds, SE K env σ G → Same G H → r = some ds → (∀ vs es G' H', Ext G H G' H' → envK mg fl ds = some es → SlsOk K G' es vs → Q vs H') → t σ H Q
theorem dk_nil : DAK K mg env [] tNil (some []) := fun σ G H Q ds _ g z q => by
  cases z; exact q [] [] G H (Ext.refl g) rfl .nil
theorem dk_cons (ha : DV K env ta ra) (hr : DAK K mg env fl tA rA) : DAK K mg env (.d :: fl) (tCons ta tA) (consO ra rA) := fun σ G H Q d s g z q => by
  obtain ⟨x, ex, z⟩ := bind_some z
  obtain ⟨xs, exs, z⟩ := bind_some z
  cases z
  refine ha σ G H _ x s g ex fun v G1 H1 E1 h1 => ?_
  refine hr σ G1 H1 _ xs (s.mono E1.gg) E1.gh exs fun vs es G2 H2 E2 h2 h3 => ?_
  exact q (v :: vs) (.sh x :: es) G2 H2 (E1.trans E2) (by show (envK mg fl xs).map _ = _; rw [h2]; rfl) (.cons rfl ⟨v, rfl, dp_mono E2.gg x v h1⟩ h3)
theorem dk_wk (i : Nat) {m : WK} (hr : DAK K mg env fl tA rA) (h : env[i]? = some (Sl.wk m) := by rfl) : DAK K mg env (.k :: fl) (tCons (tVar i) tA) (consO (some (encK m)) rA) := fun σ G H Q d s g z q => by
  obtain ⟨x, ex, z⟩ := bind_some z
  obtain ⟨xs, exs, z⟩ := bind_some z
  cases ex
  cases z
  obtain ⟨o, h1, a, kvs, rfl, h2, h3⟩ := s.at' i _ h
  refine ⟨.ref a, h1, hr σ G H _ xs s g exs fun vs es G2 H2 E2 k2 k3 => ?_⟩
  exact q _ (.wk m :: es) G2 H2 E2 (by show (asK (encK m)).bind _ = _; rw [asK_enc, Option.bind_some, k2]; rfl) (.cons rfl ((Sl.wk m).vm E2.gg ⟨a, kvs, rfl, h2, h3⟩) k3)
/-- a def, by the name that the module has for it -/
theorem dk_fn {x : Str} {f : Addr} (hx : mg x = some (.ref f)) (hr : DAK K mg env fl tA rA) : DAK K mg env (.f x :: fl) (tCons (tC (.ref f)) tA) rA := fun σ G H Q ds s g z q => by
  refine hr σ G H _ ds s g z fun vs es G2 H2 E2 k2 k3 => ?_
  exact q _ (.fv mg x :: es) G2 H2 E2 (by cases ds <;> (show (envK mg fl _).map _ = _; rw [k2]; rfl)) (.cons rfl ⟨f, hx, rfl⟩ k3)
/-- a def that a name here stands for -/
theorem dk_fv {x : Str} (i : Nat) (hr : DAK K mg env fl tA rA) (h : env[i]? = some (Sl.fv mg x) := by rfl) : DAK K mg env (.f x :: fl) (tCons (tVar i) tA) rA := fun σ G H Q ds s g z q => by
  obtain ⟨o, h1, f, hf, rfl⟩ := s.at' i _ h
  refine ⟨.ref f, h1, hr σ G H _ ds s g z fun vs es G2 H2 E2 k2 k3 => ?_⟩
  exact q _ (.fv mg x :: es) G2 H2 E2 (by cases ds <;> (show (envK mg fl _).map _ = _; rw [k2]; rfl)) (.cons rfl ⟨f, hf, rfl⟩ k3)
theorem dx_callA {m : List D → Option Rs} (h : DAK K mg (noOw env) fl tA rA) (hx : Le xe env) : DX K (.xs K mg FN R W xe) env (tCallS (spXA K mg FN fl m) (WE W) tA) (rA.bind m) := fun σ G0 H0 B G H Q rs s e q1 q2 => by
  obtain ⟨ds, e1, e2⟩ := bind_some e
  refine h σ G H _ ds s.shd s.ext.gh e1 fun vs es G1 H1 E1 h0 h1 => ?_
  refine ⟨G1, ds, es, rs, E1.gh, h0, h1, e2, fun d hd v G' H' E2 hv => q1 d hd v G' H' (E1.trans E2) hv, fun x hxx cls dd G' H' E2 hr => ?_⟩
  obtain ⟨G2, s2, g2⟩ := (s.ext' (E1.trans E2)).weak hx
  exact q2 x hxx G2 H' cls dd s2 (hr.mono g2)
/-- arguments, among them things without parts for which own lists are looked at -/
def DAW (K : PySem.W.Frag) (mg : Str → Option Value) (env : En) (fl : List Kd) (t : TA) (r : Option (List D)) : Prop := ∀ σ (G0 H0 B G H : Hp) (Q : List V → Hp → Prop) ds, SS K env σ G0 H0 B G H → r = some ds → (∀ vs es G' H', Ext G H G' H' → envK mg fl ds = some es → SlsOk K G' es vs → Q vs H') → t σ H Q
theorem dw_of (h : DAK K mg (noOw env) fl tA rA) : DAW K mg env fl tA rA := fun σ G0 H0 B G H Q ds s e q => h σ G H Q ds s.shd s.ext.gh e q
theorem dw_cons (ha : DV K (noOw env) ta ra) (hr : DAW K mg env fl tA rA) : DAW K mg env (.d :: fl) (tCons ta tA) (consO ra rA) := fun σ G0 H0 B G H Q d s z q => by
  obtain ⟨x, ex, z⟩ := bind_some z
  obtain ⟨xs, exs, z⟩ := bind_some z
  cases z
  refine ha σ G H _ x s.shd s.ext.gh ex fun v G1 H1 E1 h1 => ?_
  refine hr σ G0 H0 B G1 H1 _ xs (s.ext' E1) exs fun vs es G2 H2 E2 h2 h3 => ?_
  exact q (v :: vs) (.sh x :: es) G2 H2 (E1.trans E2) (by show (envK mg fl xs).map _ = _; rw [h2]; rfl) (.cons rfl ⟨v, rfl, dp_mono E2.gg x v h1⟩ h3)
theorem dw_consA (ha : DV K env ta ra) (hr : DAW K mg env fl tA rA) : DAW K mg env (.d :: fl) (tCons ta tA) (consO (atomO ra) rA) := fun σ G0 H0 B G H Q d s z q => by
  obtain ⟨x, ex, z⟩ := bind_some z
  obtain ⟨xs, exs, z⟩ := bind_some z
  cases z
  obtain ⟨e1, e2⟩ := atomO_some ex
  refine ha σ H H _ x s.all (Same.refl H) e1 fun v G1 H1 E1 h1 => ?_
  have E0 : Ext G H G H1 := ⟨Same.refl G, E1.hh, s.ext.gh.trans E1.hh, fun _ _ z => .inl z⟩
  refine hr σ G0 H0 B G H1 _ xs (s.ext' E0) exs fun vs es G2 H2 E2 h2 h3 => ?_
  exact q (v :: vs) (.sh x :: es) G2 H2 (E0.trans E2) (by show (envK mg fl xs).map _ = _; rw [h2]; rfl) (.cons rfl ⟨v, rfl, dp_atom e2 h1⟩ h3)
theorem dx_callW {m : List D → Option Rs} (h : DAW K mg env fl tA rA) (hx : Le xe env) : DX K (.xs K mg FN R W xe) env (tCallS (spXA K mg FN fl m) (WE W) tA) (rA.bind m) := fun σ G0 H0 B G H Q rs s e q1 q2 => by
  obtain ⟨ds, e1, e2⟩ := bind_some e
  refine h σ G0 H0 B G H _ ds s e1 fun vs es G1 H1 E1 h0 h1 => ?_
  refine ⟨G1, ds, es, rs, E1.gh, h0, h1, e2, fun d hd v G' H' E2 hv => q1 d hd v G' H' (E1.trans E2) hv, fun x hxx cls dd G' H' E2 hr => ?_⟩
  obtain ⟨G2, s2, g2⟩ := (s.ext' (E1.trans E2)).weak hx
  exact q2 x hxx G2 H' cls dd s2 (hr.mono g2)
end
/-! #### a call of a def that a name here stands for -/
open Classical in
noncomputable def fvS (mg : Str → Option Value) (x : Str) (sp : Sp) : Addr → Option Sp := fun f => if mg x = some (.ref f) then some sp else none
theorem kDfV {X : Cx} (K : PySem.W.Frag) {k i : Nat} {x y : Str} {ps : List Str} {e : Expr} {es : List Expr} {t : TA} {p pos : Pos} {m : List D → Option D} {P : Program} {w : World} {mg : Str → Option Value} {base : Heap} (d : Df P w K mg base k x ps m) (hr : Room k X.A) (ha : PA X (e :: es) t)
    (hN : X.N[i]? = some y := by rfl) (hv : Vis X.env.scope y := by first | exact Or.inl rfl | exact Or.inr (Or.inl rfl) | exact Or.inr (Or.inr rfl))
    (h1 : X.prog = P := by rfl) (h2 : X.w = w := by rfl) (h3 : X.K = K := by rfl) (h4 : X.mg = mg := by rfl) (h5 : X.base = base := by rfl) (hdb : (y == ("__debug__" : Str)) = false := by decide) (hcd : (y == ("__classdict__" : Str)) = false := by decide)
    (he : starEach (e :: es) X.env = (false, eval e X.env) :: starEach es X.env := by rfl) (hpl : (backTo pos (starEach es X.env)).any (·.1) = false := by rfl) :
    PE X (.Call (.Name y p) (e :: es) [] pos) (tCallA i (fvS mg x (spD K m)) t) := by
  subst h1; subst h2; subst h3; subst h4; subst h5
  obtain ⟨f, fd, g1, g2, g3, g4⟩ := d.ex
  refine pe_callA (k := k) (fun f' sp hS => ?_) hr hN hv ha hdb hcd he hpl
  unfold fvS at hS
  split at hS
  · rename_i hf
    cases hS
    rw [g1] at hf
    cases hf
    exact ⟨fd, ps, g4, g2, g3⟩
  · cases hS
theorem dv_callV {K : PySem.W.Frag} {mg : Str → Option Value} {env : En} {tA : TA} {rA : Option (List D)} {x : Str} {m : List D → Option D} (i : Nat) (h : DA K env tA rA) (hi : env[i]? = some (Sl.fv mg x) := by rfl) : DV K env (tCallA i (fvS mg x (spD K m)) tA) (rA.bind m) := fun σ G H Q d s g z q => by
  obtain ⟨ds, e1, e2⟩ := bind_some z
  obtain ⟨o, h1, f, hf, rfl⟩ := s.at' i _ hi
  refine ⟨f, spD K m, h1, ?_, h σ G H _ ds s g e1 fun vs G1 H1 E1 h2 => ?_⟩
  · unfold fvS; rw [if_pos hf]
  · exact ⟨G1, ds, d, E1.gh, h2, e2, fun v G' H' E hd => q v G' H' (E1.trans E) hd⟩
/-! #### what is never come to -/
theorem pss_cutD {X : Cx} {sts : List Stmt} : PSs X sts (fun _ _ _ => False) := ⟨fun _ _ _ _ _ _ h => h.elim⟩
theorem ds_cutD {K : PySem.W.Frag} {M : Md} {env : En} {α β : Type} {en : α → En} {eb : β → En} : DS K M env (fun _ _ _ => False) en eb (.no : Out α β) := fun _ _ _ _ _ _ _ _ q => q.elim
/-! #### raise C(e, ..), own lists looked at -/
section
variable {K : PySem.W.Frag} {mg : Str → Option Value} {FN : Str → List Str} {R : RR} {W : WX} {xe env : En} {tA : TA} {rA : Option (List D)} {α β : Type} {en : α → En} {eb : β → En}
theorem dpa_atoms {G G' : Hp} : ∀ {vs : List V} {ds : List D}, ds.all atom = true → DpAll K G vs ds → DpAll K G' vs ds
  | _, _, _, .nil => .nil
  | _, _, h, .cons a t => by
    rw [List.all_cons, Bool.and_eq_true] at h
    exact .cons (dp_atom h.1 a) (dpa_atoms h.2 t)
theorem mkO_in {C : Addr} {c : Str} {fs : List Str} (hC : mg c = some (.ref C)) (T : OexC K C) (hno : ∀ f ∈ fs, PySem.W.findIn K (.ref C) f = some none) (hFN : FN c = fs.reverse) {G H : Hp} {vs : List V} {ds : List D} {Q : XK} (g : Same G H) (h1 : DpAll K G vs ds) (hl : ds.length = fs.length) (h0 : fs.length ≠ 0)
    (q : ∀ cls d G' H', Ext G H G' H' → XR K mg FN G' cls d (c, ds.reverse) → Q cls d H') {a : Addr} (ha : H a = none) :
    spI K fs (.ref a :: (vs ++ [])) (upd H a (exo a C none)) (fun v H2 => v = .non ∧ ∃ (d : Addr) (fs : List (Str × V)), H2 a = some (exo a C (some d)) ∧ H2 d = some (exd d fs) ∧ H d = none ∧ Q (.ref C) (some d) (upd (del H2 a) d (.xd fs))) (fun _ _ _ => False) := by
  refine ⟨a, C, vs, by rw [List.append_nil], by rw [dpa_len h1, hl], T, hno, upd_same, fun d H2 ea ed hd ne oth => ⟨rfl, d, _, ea, ed, ?_, ?_⟩⟩
  · rw [upd_ne ne] at hd; exact hd
  · rw [upd_ne ne] at hd
    have eq : upd (del H2 a) d (.xd (fs.zip vs).reverse) = upd H d (.xd (fs.zip vs).reverse) := by
      funext b
      by_cases hb : b = d
      · subst hb; rw [upd_same, upd_same]
      · rw [upd_ne hb, upd_ne hb]
        by_cases hba : b = a
        · subst hba; rw [del_same, ha]
        · rw [del_ne hba, oth b hba hb, upd_ne hba]
    rw [eq]
    have gd : G d = none := g.free hd
    refine q _ _ (upd G d (.xd (fs.zip vs).reverse)) _ (Ext.new g hd) ⟨C, hC, rfl, .inr ⟨d, vs.reverse, rfl, ?_, dpa_mono (same_upd gd) _ _ (dpa_rev h1), ?_⟩⟩
    · rw [upd_same, hFN]
      refine congrArg (fun z => some (HO.xd z)) ?_
      rw [List.zip_eq_zipWith, List.zip_eq_zipWith, List.reverse_zipWith]
      rw [dpa_len h1, hl]
    · intro z
      have := congrArg List.length z
      rw [List.length_reverse, List.length_nil] at this
      exact h0 (hl ▸ this)
theorem ds_raiseA {C : Addr} {c : Str} {fs : List Str} (hC : mg c = some (.ref C)) (T : OexC K C) (hno : ∀ f ∈ fs, PySem.W.findIn K (.ref C) f = some none) (hFN : FN c = fs.reverse) (hz : fs.length ≤ 1000) (h : DA K env tA rA) (hx : Le xe env) :
    DS K (.xs K mg FN R W xe) env (fun _ σ H => tMkO C (spI K fs) [] tA σ H fun cls d H' => W cls d σ H') en eb (raO ((atomsO rA).bind (mkX c fs.length)) : Out α β) := fun σ G0 H0 B G H T' s q => by
  cases e : (atomsO rA).bind (mkX c fs.length) with
  | none => rw [e] at q; exact q.elim
  | some x =>
    rw [e] at q
    obtain ⟨ds, e1, e2⟩ := bind_some e
    obtain ⟨ds', e3, e4⟩ := bind_some e1
    by_cases hat : ds'.all atom = true
    · rw [if_pos hat] at e4; cases e4
      unfold mkX at e2
      by_cases hc : ds.length = fs.length ∧ fs.length ≠ 0
      · rw [if_pos hc] at e2
        cases e2
        refine h σ H H _ ds s.all (Same.refl H) e3 fun vs G1 H1 E1 h1 => ⟨by rw [dpa_len h1, hc.1]; exact hz, fun a ha => ?_⟩
        have E0 : Ext G H G H1 := ⟨Same.refl G, E1.hh, s.ext.gh.trans E1.hh, fun _ _ z => .inl z⟩
        refine mkO_in (Q := fun cls d H' => W cls d σ H') hC T hno hFN E0.gh (dpa_atoms hat h1) hc.1 hc.2 (fun cls d G' H' E hr => ?_) ha
        obtain ⟨G2, s2, g2⟩ := (s.ext' (E0.trans E)).weak hx
        exact q σ G2 H' cls d s2 (XR.mono g2 hr)
      · rw [if_neg hc] at e2; cases e2
    · rw [if_neg hat] at e4; cases e4
end
end Dl

set_option Elab.async false
set_option linter.all false
set_option maxRecDepth 100000
set_option maxHeartbeats 400000
namespace Dl
open PySem PySem.Spec PyProof.Rows L2
/-! ### defs called in an except suite -/
structure DfH (P : Program) (w : World) (K : PySem.W.Frag) (mg : Str → Option Value) (base : Heap) (k : Nat) (x : Str) (ps : List Str) (m : List D → Option D) : Prop where
  ex : ∃ f fd, mg x = some (.ref f) ∧ PySem.W.keepIn K (.ref f) = true ∧ Binds K fd ps [] ∧ L2H.FnH P w K mg base CX0 k f fd ps (spD K m)
section
variable {P : Program} {w : World} {K : PySem.W.Frag} {mg : Str → Option Value} {base : Heap} {x qual : Str} {st : Stmt} {f : Addr} {fd : FuncData} {N ps : List Str} {k : Nat}
theorem dfH_mk {m : List D → Option D} (F : Fun K x qual st f fd) (S : FnScope N ps (defScope st)) (hm : mg x = some (.ref f)) (hb : Binds K fd ps []) (hl : ∀ ds d, m ds = some d → ds.length = ps.length) (hN : ps.length ≤ N.length)
    (body : ∀ (cdv : Value) (A : Around) (outer : List Env) (s : Shared) (H : Hp) (E : XK) (p : Addr × Obj), L2H.Hot1 A p → L2H.RoomH k (A.deeper (envOfC qual (defScope st) s.heap.objs.size f cdv)) →
      ∃ t, PSs (L2H.cxH CX0 P w K mg base N qual (defScope st) f cdv A outer s H E p) (defBody st) t ∧
        ∀ ds d, m ds = some d → ∃ (β : Type) (eb : β → En) (α : Type) (en : α → En) (o : Out α β), DS K (.no (RtS K)) (env0 N.length ds) t en eb o ∧ o.run = some d) : DfH P w K mg base (k + 1) x ps m := by
  obtain ⟨_, _, _, _, _, _, cdv, _, _, rfl, lk, hcd⟩ := F.ex
  refine ⟨f, _, hm, F.kp, hb, L2H.fn_ofH lk hcd S (fun vs H Q E h => ?_) fun A outer s H vs Q E p hot hr h => ?_⟩
  · obtain ⟨G, ds, d, _, ha, e, _⟩ := h
    rw [dpa_len ha]; exact hl ds d e
  · obtain ⟨t, h1, h2⟩ := body cdv A outer s H E p hot hr
    exact ⟨t, h1, fn_body h (fun ds d e => by rw [hl ds d e]; exact hN) h2⟩
end
theorem hotC_suite {X : Cx} {a : Addr} {oe : Obj} {pn : List (Addr × Obj)} {cls : Value} {d : Option Addr} (hz : L2N.Zn cls d oe) (hf : ∃ vs, oe.data = .fields vs) : L2H.HotC (X.suite a ((a, oe) :: pn)) := by
  obtain ⟨vs, hd⟩ := hf
  exact ⟨(a, oe), ⟨rfl, vs, hd, hz.2.2 vs hd⟩, List.mem_cons_self⟩
def EN : L2.St → XK := fun _ _ _ _ => False
theorem kDfH {X : Cx} {k : Nat} {x : Str} {ps : List Str} {e : Expr} {es : List Expr} {t : TA} {p pos : Pos} (K : PySem.W.Frag) {m : List D → Option D} {P : Program} {w : World} {mg : Str → Option Value} {base : Heap} (d : DfH P w K mg base k x ps m) (hr : L2H.RoomH k X.A) (hc : L2H.HotC X) (hg : Gl X x) (ha : PA X (e :: es) t)
    (h1 : X.prog = P := by rfl) (h2 : X.w = w := by rfl) (h3 : X.K = K := by rfl) (h4 : X.mg = mg := by rfl) (h5 : X.base = base := by rfl) (hdb : (x == ("__debug__" : Str)) = false := by decide)
    (he : starEach (e :: es) X.env = (false, eval e X.env) :: starEach es X.env := by rfl) (hpl : (backTo pos (starEach es X.env)).any (·.1) = false := by rfl) :
    PE X (.Call (.Name x p) (e :: es) [] pos) (tCallS (spD K m) EN t) := by
  subst h1; subst h2; subst h3; subst h4; subst h5
  obtain ⟨f, fd, g1, g2, g3, g4⟩ := d.ex
  exact L2H.pe_callH g4 hr hc hg g1 g2 g3 (fun _ _ _ _ _ _ _ z => z.elim) ha hdb he hpl
theorem dv_callH {K : PySem.W.Frag} {env : En} {tA : TA} {rA : Option (List D)} {m : List D → Option D} (h : DA K env tA rA) : DV K env (tCallS (spD K m) EN tA) (rA.bind m) := fun σ G H Q d s g z q => by
  obtain ⟨ds, e1, e2⟩ := bind_some z
  refine h σ G H _ ds s g e1 fun vs G1 H1 E1 h1 => ?_
  exact ⟨G1, ds, d, E1.gh, h1, e2, fun v G' H' E hd => q v G' H' (E1.trans E) hd⟩
end Dl

set_option Elab.async false
set_option linter.all false
set_option maxRecDepth 100000
set_option maxHeartbeats 400000
namespace Dl
open PySem PySem.Spec PyProof.Rows L2
/-! ### try, its meaning as one word (so that it unifies at sight) -/
def tTry (K : PySem.W.Frag) (c : Value) (i : Nat) (tb : WX → TS) (ts : Addr → Value → Option Addr → TS) (W0 : WX) : TS := fun D σ H => tb (wAs K c i ts W0 D) D σ H
section
variable {X : Cx} {x n : Str} {c : Value} {i : Nat} {body suite : List Stmt} {b₀ : Stmt} {np pos pos' : Pos} {tb : WX → TS} {ts : Addr → Value → Option Addr → TS} {Wout : WX}
theorem ps_tryN (hs : X.stack = X.env :: X.outer) (hf : X.env.frame = some X.env.locals) (hN : X.N.Nodup) (hi : X.N[i]? = some n) (hln : X.env.kindOf n = some .local) (hc : Names X x c) (tk : L2N.Takes X Wout)
    (hb : ∀ (W : WX) (pn : List (Addr × Obj)) (xe : Value → Shared → Prop), L2N.Takes (X.tr pn xe) W → PassesOwn (model X.prog X.w) X.A X.env xe → PSs (X.tr pn xe) body (tb W))
    (hsu : ∀ (a : Addr) (oe : Obj) (cls : Value) (d : Option Addr) (pn : List (Addr × Obj)), L2N.Zn cls d oe → (∃ vs, oe.data = .fields vs) → PSs (X.suite a ((a, oe) :: pn)) (b₀ :: suite) (ts a cls d)) :
    PS X (.Try body [.ExceptHandler (some (.Name x np)) (some n) (b₀ :: suite) pos'] [] [] pos) (tTry X.K c i tb ts Wout) := L2N.ps_try_as hs hf hN hi hln hc tk hb hsu
end
section
variable {K : PySem.W.Frag} {mg : Str → Option Value} {FN : Str → List Str} {env xe : En} {α β : Type} {en : α → En} {eb : β → En} {o : Out α β}
theorem ds_tryN {i : Nat} {c : Value} {tb : WX → TS} {ts : Addr → Value → Option Addr → TS} {ca : Str → Bool} {ho : Xd → Out α β} {W0 : WX} {M : Md}
    (hb : ∀ W, DS K (.xs K mg FN M.R W xe) env (tb W) en eb o)
    (hs : ∀ a cls d x, DS K M (xe.set i (.xn K mg FN a cls d x)) (ts a cls d) en eb (ho x))
    (hen : ∀ a, (en a)[i]? = some .un ∨ (en a).length ≤ i) (heb : ∀ b, (eb b)[i]? = some .un ∨ (eb b).length ≤ i)
    (hc : ∀ G cls d x, XR K mg FN G cls d x → ca x.1 = true → PySem.W.exmOne K cls c = some true) (hMx : M.xr = fun _ _ _ _ _ => True) :
    DS K M env (tTry K c i tb ts W0) en eb (tryO o ca ho) := ds_try hb hs hen heb hc hMx
end
end Dl

set_option Elab.async false
set_option linter.all false
set_option maxRecDepth 100000
set_option maxHeartbeats 1000000
namespace Dl
open PySem PySem.Spec PyProof.Rows L2
/-! ### try with several `except C as e`, one name for all -/
abbrev Hd := Value × (Addr → Value → Option Addr → TS)
/-- the way out: the first clause whose class fits; none that fits: W0 -/
def wHds (K : PySem.W.Frag) (i : Nat) (W0 : WX) (D : Ends) : List Hd → WX
  | [] => W0
  | h :: hs => fun cls d σ H => ∃ b, PySem.W.exmOne K cls h.1 = some b ∧
    (b = true → ∀ a, H a = none → h.2 a cls d { nx := fun σ' H' => D.nx (σ'.set i none) H', rt := D.rt, bk := fun σ' H' => D.bk (σ'.set i none) H', ct := fun σ' H' => D.ct (σ'.set i none) H' } (σ.set i (some (.ref a))) H) ∧
    (b = false → wHds K i W0 D hs cls d σ H)
inductive HdsAs (X : Cx) (n : Str) : List ExceptHandler → List Hd → Prop
  | nil : HdsAs X n [] []
  | cons {x : Str} {c : Value} {ts : Addr → Value → Option Addr → TS} {b₀ : Stmt} {suite : List Stmt} {np pos' : Pos} {hds : List ExceptHandler} {l : List Hd} (hc : Names X x c)
      (hsu : ∀ (a : Addr) (oe : Obj) (cls : Value) (d : Option Addr) (pn : List (Addr × Obj)), L2N.Zn cls d oe → (∃ vs, oe.data = .fields vs) → PSs (X.suite a ((a, oe) :: pn)) (b₀ :: suite) (ts a cls d))
      (r : HdsAs X n hds l) : HdsAs X n (.ExceptHandler (some (.Name x np)) (some n) (b₀ :: suite) pos' :: hds) ((c, ts) :: l)
def tTryM (K : PySem.W.Frag) (i : Nat) (tb : WX → TS) (l : List Hd) (W0 : WX) : TS := fun D σ H => tb (wHds K i W0 D l) D σ H
section
variable {X : Cx} {n : Str} {i : Nat} {body : List Stmt} {h₀ : ExceptHandler} {hds : List ExceptHandler} {l : List Hd} {pos : Pos} {tb : WX → TS} {Wout : WX}
theorem ps_tryM (hs : X.stack = X.env :: X.outer) (hf : X.env.frame = some X.env.locals) (hN : X.N.Nodup) (hi : X.N[i]? = some n) (hln : X.env.kindOf n = some .local) (tk : L2N.Takes X Wout)
    (hb : ∀ (W : WX) (pn : List (Addr × Obj)) (xe : Value → Shared → Prop), L2N.Takes (X.tr pn xe) W → PassesOwn (model X.prog X.w) X.A X.env xe → PSs (X.tr pn xe) body (tb W))
    (hh : HdsAs X n (h₀ :: hds) l) : PS X (.Try body (h₀ :: hds) [] [] pos) (tTryM X.K i tb l Wout) := by
  refine ⟨fun pins s σ H D I h => ?_⟩
  have ok := I.ok; have hloc : Loc X.env.scope n := .inl hln
  have hfr : X.A.frames = some (X.env :: X.outer) := hs ▸ ok.frames
  refine wpAny_Try_except (wpAny_mono ((hb (wHds X.K i Wout D l) (X.pn ++ pins) (fun e s₁ => wpAny (model X.prog X.w) X.A (noteFrame e X.env) (fun _ s₂ => wpAny (model X.prog X.w) X.A (setFlight e none) (fun _ s₃ => wpAny (model X.prog X.w) X.A (handleBy e X.env (h₀ :: hds)) (SP X pins D) X.xe s₃) X.xe s₂) X.xe s₁)
    (fun u s' xx => ?_) PassesOwn.looking).run [] s σ H D (I.toTry _) h) (fun f s1 hsp => ?_) (fun e s1 he => he))
  · obtain ⟨a, B, sI, pins', σ', H', cls, d, rfl, J', nb, up, sky, na, os, ag, w⟩ := xx
    have J : Inv X pins σ' H' sI := J'.ofTry ok; have sky' : Sky B (X.env :: X.outer) a (L2N.Zn cls d) X.env.locals s'.heap := by rw [← hs]; exact sky
    show wpAny (model X.prog X.w) X.A (noteFrame (.ref a) X.env) _ _ _
    refine L2N.Sky.land L2N.Zn.steady hfr hf sky' fun h3 fl3 up3 => ?_
    have J3 : Inv X pins σ' H' { s' with heap := h3 } := J.landed nb fl3.1 (up.trans up3) os ag; obtain ⟨oe3, vs3, he3, hz3, hd3⟩ := fl3.there
    have nfr : a ∉ frs (X.env :: X.outer) := fun hm => by
      obtain ⟨_, o', e', hnf⟩ := fl3.2.2.1.mem hm; rw [he3] at e'; cases e'; exact hnf _ hd3
    have nL : a ≠ X.env.locals := fun z => nfr (List.mem_filterMap.mpr ⟨X.env, .head _, hf.trans (congrArg some z.symm)⟩)
    have nF : a ∉ X.fs := fun hm => by
      obtain ⟨e, he, q⟩ := List.mem_filterMap.mp hm; exact nfr (List.mem_filterMap.mpr ⟨e, .tail _ he, q⟩)
    have S3 := J3.suite he3 hd3 na nL nF
    have go : ∀ {hs' : List ExceptHandler} {l' : List Hd}, HdsAs X n hs' l' → wHds X.K i Wout D l' cls d σ' H' → wpAny (model X.prog X.w) X.A (handleBy (.ref a) X.env hs') (SP X pins D) X.xe { s' with heap := h3 } := by
      intro hs' l' hk
      induction hk with
      | nil =>
        intro w
        obtain ⟨_, _, _, oe, vs, T, oT, ts', he, hz, hd, h1, hr⟩ := id fl3
        refine wpAny_handleBy_nil (by
          unfold PySem.passOn
          refine wpAny_bind (wpAny_field he hd h1 ?_); rw [if_neg (show ¬ ((Value.ref T == Value.none) = true) by simp)]
          have fin : wpAny (model X.prog X.w) X.A (setFlight (.ref a) X.env.frame) (fun _ s4 => wpAny (model X.prog X.w) X.A (throw (.ref a) : Sem Flow) (SP X pins D) X.xe s4) X.xe { s' with heap := h3 } := by
            rw [hf]; exact HandSPX.setFlight_upZ fl3 fun h4 hh4 up4 => wpAny_throw (tk _ _ ⟨a, B, sI, pins, σ', H', cls, d, rfl, J, nb, (up.trans up3).trans up4, .inr (.inr (by rw [hs]; exact hh4)), na, os, ag, w⟩)
          first | exact wpAny_bind (wpAny_pure (wpAny_bind fin)) | exact wpAny_bind fin)
      | @cons x c ts b₀ suite np pos' hds2 l2 hc hsu r ih =>
        rintro ⟨b, hb1, hyes, hno⟩
        refine wpAny_handleBy_cons (codeAny_handlers_test ?_) (fun q => by cases q)
        have LM := PySem.W.exm_one (M := model X.prog X.w) (J3.kIn) (fun A Q E s k q => wpAny_typeOf_ref (k _ _ he3) (hz3.1.symm ▸ q) : PySem.W.Looks (model X.prog X.w) h3 (typeOf (.ref a)) cls) hb1
        have test : ∀ {Q : Value → Shared → Prop} {E : Value → Shared → Prop}, Q c { s' with heap := h3 } → wpAny (model X.prog X.w) (X.A.mark (some (.ref a))) (eval (.Name x np) X.env) Q E { s' with heap := h3 } := fun {Q E} q => by
          obtain ⟨hg, hdbg, hm | ⟨hm, hv, hnn⟩⟩ := hc
          · exact ld_glob (X := X.suite a ((a, oe3) :: (X.pn ++ pins))) S3 hg hm q hdbg
          · exact ld_blt (X := X.suite a ((a, oe3) :: (X.pn ++ pins))) S3 hg hm hv q hnn hdbg
        refine test (LM.here ?_)
        cases b with
        | true =>
          refine codeAny_handlers_suite_as (HandSPX.lands_againZ fl3 fun h4 fl4 up4 => ?_)
          have J4 : Inv X pins σ' H' { s' with heap := h4 } := J.landed nb fl4.1 ((up.trans up3).trans up4) os ag; obtain ⟨oe4, vs4, he4, hz4, hd4⟩ := fl4.there
          have S4 := J4.suite he4 hd4 na nL nF
          refine store_ok (X := X.suite a ((a, oe4) :: (X.pn ++ pins))) (v := .ref a) S4 hN hi hloc rfl (fun s5 S5 => wpAny_mono ((hsu a oe4 cls d (X.pn ++ pins) hz4 ⟨_, hd4⟩).run [] s5 _ H' _ S5 (hyes rfl a na)) (fun f s6 hsp => ?_) (fun _ _ z => False.elim z)) (.inr hln)
          have end_ : ∀ {σ6 : L2.St} {H6 : Hp} {Q : Shared → Prop}, Inv (X.suite a ((a, oe4) :: (X.pn ++ pins))) [] σ6 H6 s6 → (∀ s7, Inv X pins (σ6.set i none) H6 s7 → Q s7) →
              wpAny (model X.prog X.w) X.A (do bindName X.env n .none; unbindBehindTheSuite X.env n pos') (fun _ s7 => Q s7) X.xe s6 := fun {σ6 H6 Q} S6 hq => gone_ok (S6.unsuite ok) hN hi hln hq
          match f, hsp with
          | .next, ⟨σ6, H6, S6, q6⟩ => exact end_ S6 fun s7 J7 => ⟨_, _, J7, q6⟩
          | .brk, ⟨σ6, H6, S6, q6⟩ => exact end_ S6 fun s7 J7 => ⟨_, _, J7, q6⟩
          | .cont, ⟨σ6, H6, S6, q6⟩ => exact end_ S6 fun s7 J7 => ⟨_, _, J7, q6⟩
          | .ret u, ⟨v6, σ6, H6, S6, r6, q6⟩ => exact end_ S6 fun s7 J7 => ⟨_, _, _, J7, r6, q6⟩
        | false => exact ih (hno rfl)
    exact go hh w
  · match f, hsp with
    | .next, ⟨σ', H', J', q⟩ => exact wpAny_execs_nil ⟨σ', H', J'.ofTry ok, q⟩
    | .brk, ⟨σ', H', J', q⟩ => exact ⟨σ', H', J'.ofTry ok, q⟩
    | .cont, ⟨σ', H', J', q⟩ => exact ⟨σ', H', J'.ofTry ok, q⟩
    | .ret u, ⟨v, σ', H', J', r, q⟩ => exact ⟨v, σ', H', J'.ofTry ok, r, q⟩
end
section
variable {K : PySem.W.Frag} {mg : Str → Option Value} {FN : Str → List Str} {env xe : En} {α β : Type} {en : α → En} {eb : β → En} {o : Out α β}
abbrev HdO (α β : Type) := (Str → Option Bool) × (Xd → Out α β)
def goM {α β : Type} (x : Xd) : List (HdO α β) → Out α β
  | [] => .no
  | h :: hs => match h.1 x.1 with
    | some true => h.2 x
    | some false => goM x hs
    | none => .no
def tryM {α β : Type} (o : Out α β) (l : List (HdO α β)) : Out α β := match o with
  | .xc x => goM x l
  | o => o
inductive HdsD (K : PySem.W.Frag) (mg : Str → Option Value) (FN : Str → List Str) (M : Md) (xe : En) (i : Nat) (en : α → En) (eb : β → En) : List Hd → List (HdO α β) → Prop
  | nil : HdsD K mg FN M xe i en eb [] []
  | cons {c : Value} {ts : Addr → Value → Option Addr → TS} {ca : Str → Option Bool} {ho : Xd → Out α β} {l : List Hd} {m : List (HdO α β)} (hs : ∀ a cls d x, DS K M (xe.set i (.xn K mg FN a cls d x)) (ts a cls d) en eb (ho x))
      (hc : ∀ G cls d x b, XR K mg FN G cls d x → ca x.1 = some b → PySem.W.exmOne K cls c = some b) (r : HdsD K mg FN M xe i en eb l m) : HdsD K mg FN M xe i en eb ((c, ts) :: l) ((ca, ho) :: m)
theorem ds_tryM {i : Nat} {tb : WX → TS} {l : List Hd} {m : List (HdO α β)} {W0 : WX} {M : Md} (hb : ∀ W, DS K (.xs K mg FN M.R W xe) env (tb W) en eb o) (hh : HdsD K mg FN M xe i en eb l m)
    (hen : ∀ a, (en a)[i]? = some .un ∨ (en a).length ≤ i) (heb : ∀ b, (eb b)[i]? = some .un ∨ (eb b).length ≤ i) (hMx : M.xr = fun _ _ _ _ _ => True) : DS K M env (tTryM K i tb l W0) en eb (tryM o m) := fun σ G0 H0 B G H T s q => by
  refine hb (wHds K i W0 T l) σ G0 H0 B G H T s ?_
  cases o with
  | nx a => exact q
  | rt d => exact q
  | bk b => exact q
  | ct b => exact q
  | no => exact q
  | xc x =>
    intro σ' G' H' cls d s' r'
    change Post K M en eb T G0 H0 B (goM x m) at q
    induction hh with
    | nil => exact q.elim
    | @cons c ts ca ho l m hs hc r ih =>
      cases e1 : ca x.1 with
      | none => unfold goM at q; dsimp only at q; rw [e1] at q; exact q.elim
      | some b =>
        unfold goM at q
        dsimp only at q
        rw [e1] at q
        cases b with
        | false => exact ⟨false, hc G' cls d x false r' e1, fun z => (by cases z), fun _ => ih s' r' q⟩
        | true =>
          refine ⟨true, hc G' cls d x true r' e1, fun _ a ha => ?_, fun z => (by cases z)⟩
          have s2 : SS K (xe.set i (.xn K mg FN a cls d x)) (σ'.set i (some (.ref a))) G0 H0 B G' H' :=
            s'.put (Ext.refl s'.ext.gh) (sl := .xn K mg FN a cls d x) (S := []) i ⟨rfl, fun _ => ⟨rfl, r'⟩⟩ fun b hb => by cases hb
          refine hs a cls d x _ G0 H0 B G' H' _ s2 ?_
          dsimp only at q
          cases e : ho x with
          | nx b => rw [e] at q; exact fun σ6 G6 H6 s6 => q _ G6 H6 (s6.setNone i (hen b))
          | rt b => rw [e] at q; exact q
          | bk b => rw [e] at q; exact fun σ6 G6 H6 s6 => q _ G6 H6 (s6.setNone i (heb b))
          | ct b => rw [e] at q; exact fun σ6 G6 H6 s6 => q _ G6 H6 (s6.setNone i (heb b))
          | no => rw [e] at q; exact q
          | xc b => rw [e] at q; exact q
end
/-- the table of the except clauses -/
structure XTokE (K : PySem.W.Frag) (mg : Str → Option Value) (tab : XTab) (CV : Str → Value) : Prop where
  all : ∀ t ∈ tab, ∃ f, mg t.1 = some (.ref f) ∧ PySem.W.exmOne K (.ref f) (CV t.2.1) = some t.2.2
theorem XTokE.ca {K : PySem.W.Frag} {mg : Str → Option Value} {FN : Str → List Str} {CV : Str → Value} {tab : XTab} {G : Hp} {cls : Value} {d : Option Addr} {x : Xd} {cv : Value} {b : Bool} (T : XTokE K mg tab CV) (C : Str) (r : XR K mg FN G cls d x) (h : tabX tab x.1 C = some b) (w : CV C = cv) : PySem.W.exmOne K cls cv = some b := by
  obtain ⟨f, k1, k2⟩ := T.all _ (tabX_mem h)
  obtain ⟨Cc, g1, g2, _⟩ := r
  rw [g1] at k1; cases k1
  rw [g2, ← w]; exact k2
end Dl

set_option Elab.async false
set_option linter.all false
set_option maxRecDepth 100000
set_option maxHeartbeats 400000
namespace Dl
open PySem PySem.Spec PyProof.Rows L2
/-! ### errors as values: made, handed on, in lists, looked at -/
section
variable {X : Cx} {C : Addr} {bmB : List Value} {B newId initId : String}
/-- C() of an own class without an __init__, as a value -/
theorem pe_new0 {x : Str} {p pos : Pos} (F : ExcBaseFacts B newId initId bmB) (q : PySem.W.excIn X.K C bmB newId = true) (gC : X.mg x = some (.ref C)) (kC : PySem.W.keepIn X.K (.ref C) = true) (hg : Gl X x)
    (hdb : (x == ("__debug__" : Str)) = false := by decide) : PE X (.Call (.Name x p) [] [] pos) (fun _ H Q => ∀ a, H a = none → Q (.ref a) (upd H a (ExO (.ref C) a))) := by
  refine ⟨fun pins s σ H Q I h => ?_⟩
  refine wpAny_Call_Name_kw (ld_glob I hg gC ?_ hdb)
  refine PySem.W.callWith_K0 I.kIn kC ?_
  show wpAny _ _ (call (.ref C) []) _ _ _
  obtain ⟨bm, N, nm, qn, bs, hdct, sn, sub, ab, col, dd, k0, k1, k2, k3, k5, mN, hC, hN, hni, T⟩ := exc_obj I.kIn q
  refine wpAny_call_exc_subT F T hC hN hni (fun h' a hm => ?_) (Nat.zero_le _)
  have hn : H a = none := I.hok.gone hm.new
  obtain ⟨t, ht, _, _⟩ := hm.there
  exact ⟨.ref a, upd H a (ExO (.ref C) a), I.laidN hm.keeps hm.new hn (exO_ok ht ⟨rfl, rfl⟩ rfl rfl rfl (show 4 < 6 by decide)), rfl, h a hn⟩
/-- C(e, ..), C with an own __init__, as a value -/
def tExF (C : Addr) (sp : Sp) (ta : TA) : TE := fun σ H Q => ta σ H fun vs H1 => vs.length ≤ 1000 ∧ ∀ a, H1 a = none → sp (.ref a :: vs) (upd H1 a (exo a C none)) (fun v H2 => v = .non ∧ Q (.ref a) H2) (fun _ _ _ => False)
theorem pe_newF {CX : CXT} {x : Str} {e : Expr} {es : List Expr} {ta : TA} {p pos : Pos} {C fI : Addr} {k : Nat} {fd : FuncData} {ps : List Str} {sp : Sp} (T : OexC X.K C)
    (iC : PySem.W.findIn X.K (.ref C) "__init__" = some (some (.ref fI))) (tI : PySem.W.typeIn X.K (.ref fI) = some (.type "function")) (F1 : FnOk X.prog X.w X.K X.mg X.base CX k fI fd ps sp) (hr : Room (k + 1) X.A) (hb : Binds X.K fd ps [])
    (hx : Passes CX X (fun _ _ _ => False)) (hg : Gl X x) (hm : X.mg x = some (.ref C)) (ha : PA X (e :: es) ta) (hdb : (x == ("__debug__" : Str)) = false := by decide)
    (he : starEach (e :: es) X.env = (false, eval e X.env) :: starEach es X.env := by rfl) (hpl : (backTo pos (starEach es X.env)).any (·.1) = false := by rfl) : PE X (.Call (.Name x p) (e :: es) [] pos) (tExF C sp ta) := by
  refine ⟨fun pins s σ H Q I h => ?_⟩
  obtain ⟨nm, q, N, bs, bm, sn, sub, ab, col, dd, k0, k1, k2, k3, k5, hC, hbm⟩ := T.cls
  refine wpAny_Call_Name_kw (ld_glob I hg hm (PySem.W.callWith_K (h₀ := X.base) I.ok.mod.kin T.kC (thn (ha.run pos pins s σ H _ I h) fun us s1 ⟨vs, H1, I1, r1, hz, q1⟩ => ⟨I1.kIn, ?_⟩) he hpl) hdb)
  show wpAny _ _ (call (.ref C) us) _ _ _; obtain ⟨hp, g, dr, tk, os⟩ := s1
  obtain ⟨E, hE⟩ : ∃ E : Addr, E = hp.objs.size + 1 := ⟨_, rfl⟩
  have hsz : hp.objs.size ≤ E := hE ▸ Nat.le_succ _
  have hq := q1 E (I1.hok.fresh hsz)
  obtain ⟨hp2, hh2⟩ : ∃ z : Heap, z = (hp.push (PySem.W.kdv_tup us)).push (PySem.HandSPX.excO C hp.objs.size) := ⟨_, rfl⟩
  have kk : ∀ b o, hp.get? b = some o → hp2.get? b = some o := fun b o z => by rw [hh2]; exact Heap.get?_push_of_some _ (Heap.get?_push_of_some _ z)
  have hget : hp2.get? E = some (PySem.HandSPX.excO C hp.objs.size) := by rw [hh2, hE]; heap_get
  have I2 : Inv X pins σ (upd H1 E (exo E C none)) ⟨hp2, g, dr, tk, os⟩ := I1.laid (t' := tk) (a := E) (o := exo E C none) (h' := hp2) kk hsz (exo_ok hget)
  have r2 : Vals (V.ref E :: (vs ++ [])) (Value.ref E :: us) := .cons rfl (by rw [List.append_nil]; exact r1)
  have hq' : sp (V.ref E :: (vs ++ [])) (upd H1 E (exo E C none)) (fun v H2 => v = .non ∧ Q (.ref E) H2) (fun _ _ _ => False) := by rw [List.append_nil]; exact hq
  have hl : (Value.ref E :: us ++ []).length = ps.length := by
    have z := r2.length; rw [F1.len _ _ _ _ hq'] at z; rw [List.append_nil]; exact z.symm
  have hus : us.length ≤ sizeLine := by rw [← Paired.length r1, sizeLine_eq]; omega
  have hb' := hb _ (Value.ref E :: us) I2.kIn hl
  rw [List.append_nil] at hb'
  have run := F1.run _ X.stack _ _ ⟨Value.ref E :: us, []⟩ (Value.ref E :: us) _ _ (fun _ _ _ => False) (hr.make C us []) (I2.env0.make C us []) hb' r2 hq'
  subst hE; subst hh2
  refine wpAny_call (PySem.HandSPX.call_own F.excBase_ValueError (fun Y => PySem.HandSPX.refsVE_contains Y bm hbm) (I1.kIn _ _ hC) (PySem.W.looks_findIn I1.kIn iC) (fun self => PySem.W.bind_fn I1.kIn self tI) hus (codeAny_mono run fun r s' hq' => ?_))
  match r, hq' with
  | .error er, hq' => exact hx pins σ _ _ er s' I2 hq'
  | .ok (.ret u), hq' =>
    obtain ⟨v, H3, I3, rv, ev, q3⟩ := I2.after hq'
    subst ev
    exact ⟨rv, ⟨V.ref _, H3, I3, rfl, q3⟩⟩
  | .ok .next, hq' => exact False.elim hq'
  | .ok .brk, hq' => exact False.elim hq'
  | .ok .cont, hq' => exact False.elim hq'
/-- e.f of such a value -/
def tXv (C : Addr) (f : Str) (te : TE) : TE := fun σ H Q => te σ H fun x H1 => ∃ (a dd : Addr) (fs : List (Str × V)) (v : V), x = .ref a ∧ H1 a = some (exo a C (some dd)) ∧ H1 dd = some (exd dd fs) ∧ fs.lookup f = some v ∧ Q v H1
theorem pe_xv {e : Expr} {te : TE} {pos : Pos} {n : Str} (T : XfC X.K C) (hno : PySem.W.findIn X.K (.ref C) n = some none)
    (he : PE X e te) (hb : attributeBase e n X.env (eval e X.env) = eval e X.env := by rfl) :
    PE X (.Attribute e n pos) (tXv C n te) := by
  refine ⟨fun pins s σ H Q I h => ?_⟩
  refine attr_of hb (thn (he.run pins s σ H _ I h) fun u s1 hh => ?_)
  obtain ⟨x, H1, I1, rx, a, dd, fs, v, ex, ea, ed, l, q⟩ := hh
  subst ex
  obtain rfl : u = Value.ref a := rx
  obtain ⟨t0, ho⟩ := exo_at I1.hok ea
  obtain ⟨mA, hns, hr⟩ := exd_at I1.hok ed
  obtain ⟨od, hod, hl⟩ := lookIn_ns hns
  obtain ⟨u, hu, ru⟩ := RelO.some_of (v := v) (o := mA n) (by rw [← l]; exact hr n)
  have J : PySem.W.InstAt s1.heap a _ C (some od) := ⟨ho, rfl, rfl, hod⟩
  exact HandSPX.exc_get I1.kIn J T.ga T.gg T.exC (PySem.W.findObj_own T.hdC hno rfl (by rw [hl, hu])) (handed_of ru) ⟨v, H1, I1.tok _, ru, q⟩
/-- isinstance of such a value -/
def rIsV (K : PySem.W.Frag) : List V → Hp → VK → Prop := fun xs H Q => ∃ (a D : Addr) (c : V) (cv : Value) (b : Bool), xs = [.ref a, c] ∧ ExcC K D ∧ (H a = some (ExO (.ref D) a) ∨ ∃ dd fs, H a = some (exo a D (some dd)) ∧ H dd = some (exd dd fs)) ∧
  (∀ u, RelV c u → u = cv) ∧ PySem.W.kitOne K (.ref D) cv = some b ∧ Q (.bl b) H
theorem kIsV (K : PySem.W.Frag) (hK : X.K = K := by rfl) : CallR X (.builtin "isinstance") (rIsV K) := by
  subst hK
  intro pins s σ H xs us Q I r ⟨a, D, c, cv, b, e0, C, hd, hcv, e, q⟩
  subst e0
  match r with
  | .cons rx (.cons rt .nil) =>
    cases rx
    have ec := hcv _ rt
    subst ec
    have J : ∃ oe odd, PySem.W.InstAt s.heap a oe D odd := by
      rcases hd with hd | ⟨dd, fs, hd, h2⟩
      · have hx : ObjOk X.prog X.w H s.heap a (ExO (.ref D) a) := I.hok a _ hd
        obtain ⟨⟨oe, vs, ho, hz, hf, _⟩, _⟩ := hx
        obtain ⟨oc, od, oda, osl⟩ := oe
        obtain ⟨z1, z2⟩ := hz
        dsimp only at z1 z2 hf
        subst z1 z2 hf
        exact ⟨_, none, ho, rfl, rfl, trivial⟩
      · obtain ⟨t0, ho⟩ := exo_at I.hok hd
        obtain ⟨mA, hns, hr⟩ := exd_at I.hok h2
        obtain ⟨oo, hod, _⟩ := lookIn_ns hns
        exact ⟨_, some oo, ho, rfl, rfl, hod⟩
    obtain ⟨oe, odd, J⟩ := J
    have hcl : (PySem.W.clsIn X.K D).isSome = true := by
      obtain ⟨cd, hc, _⟩ := PySem.W.any_some C.hd
      rw [hc]; rfl
    exact PySem.W.kia_one (PySem.W.kitx_exc hcl C.hg C.hk C.hs C.ha C.hn C.ht C.hm) I.kIn J e (fun z => nomatch z) fun tk => ⟨.bl b, H, I.kept (t' := tk) fun _ _ z => z, rfl, q⟩
theorem kNew0 {K : PySem.W.Frag} {mg : Str → Option Value} {x : Str} {p pos : Pos} (c : XCls K mg x C) (hg : Gl X x) (h3 : X.K = K := by rfl) (h4 : X.mg = mg := by rfl) (hdb : (x == ("__debug__" : Str)) = false := by decide) :
    PE X (.Call (.Name x p) [] [] pos) (fun _ H Q => ∀ a, H a = none → Q (.ref a) (upd H a (ExO (.ref C) a))) := by
  subst h3; subst h4
  exact pe_new0 PySem.F.excBase_ValueError c.q c.g c.k hg hdb
theorem kNewF {P : Program} {w : World} {mg : Str → Option Value} {base : Heap} {x : Str} {e : Expr} {es : List Expr} {ta : TA} {p pos : Pos} {fs : List Str} {k : Nat} (K : PySem.W.Frag) (c : XFld P w K mg base x C fs) (hr : Room k X.A) (hk : 2 ≤ k) (hg : Gl X x) (ha : PA X (e :: es) ta)
    (h1 : X.prog = P := by rfl) (h2 : X.w = w := by rfl) (h3 : X.K = K := by rfl) (h4 : X.mg = mg := by rfl) (h5 : X.base = base := by rfl) (hdb : (x == ("__debug__" : Str)) = false := by decide)
    (he : starEach (e :: es) X.env = (false, eval e X.env) :: starEach es X.env := by rfl) (hpl : (backTo pos (starEach es X.env)).any (·.1) = false := by rfl) :
    PE X (.Call (.Name x p) (e :: es) [] pos) (tExF C (spI K fs) ta) := by
  subst h1; subst h2; subst h3; subst h4; subst h5
  obtain ⟨fI, fd, ps, i1, i2, i3, i4⟩ := c.i
  exact pe_newF c.o i1 i2 i3 (hr.mono hk) i4 pass0 hg c.g ha hdb he hpl
end
/-! #### the data -/
def XVd (K : PySem.W.Frag) (mg : Str → Option Value) (FN : Str → List Str) (G : Hp) (v : V) (x : Xd) : Prop :=
  ∃ a C, v = .ref a ∧ mg x.1 = some (.ref C) ∧ ((x.2 = [] ∧ G a = some (ExO (.ref C) a)) ∨ ∃ dd vs, G a = some (exo a C (some dd)) ∧ G dd = some (exd dd ((FN x.1).zip vs)) ∧ DpAll K G vs x.2)
section
variable {K : PySem.W.Frag} {mg : Str → Option Value} {FN : Str → List Str} {G G' : Hp}
theorem XVd.mono {v : V} {x : Xd} (g : Same G G') (h : XVd K mg FN G v x) : XVd K mg FN G' v x := by
  obtain ⟨a, C, h1, h2, ⟨h3, h4⟩ | ⟨dd, vs, h3, h4, h5⟩⟩ := h
  · exact ⟨a, C, h1, h2, .inl ⟨h3, g _ _ h4⟩⟩
  · exact ⟨a, C, h1, h2, .inr ⟨dd, vs, g _ _ h3, g _ _ h4, dpa_mono g _ _ h5⟩⟩
inductive XVs (K : PySem.W.Frag) (mg : Str → Option Value) (FN : Str → List Str) (G : Hp) : List V → List Xd → Prop
  | nil : XVs K mg FN G [] []
  | cons {v : V} {x : Xd} {vs : List V} {xs : List Xd} : XVd K mg FN G v x → XVs K mg FN G vs xs → XVs K mg FN G (v :: vs) (x :: xs)
theorem XVs.mono (g : Same G G') : ∀ {vs : List V} {xs : List Xd}, XVs K mg FN G vs xs → XVs K mg FN G' vs xs
  | _, _, .nil => .nil
  | _, _, .cons h t => .cons (h.mono g) (XVs.mono g t)
theorem XVs.len : ∀ {vs : List V} {xs : List Xd}, XVs K mg FN G vs xs → vs.length = xs.length
  | _, _, .nil => rfl
  | _, _, .cons _ t => congrArg (· + 1) (XVs.len t)
theorem XVs.app : ∀ {vs ws : List V} {xs ys : List Xd}, XVs K mg FN G vs xs → XVs K mg FN G ws ys → XVs K mg FN G (vs ++ ws) (xs ++ ys)
  | _, _, _, _, .nil, k => k
  | _, _, _, _, .cons h t, k => .cons h (XVs.app t k)
theorem XVs.get : ∀ {vs : List V} {xs : List Xd} {i : Nat} {x : Xd}, XVs K mg FN G vs xs → xs[i]? = some x → ∃ v, vs[i]? = some v ∧ XVd K mg FN G v x
  | _, _, _, _, .nil, e => by simp at e
  | _, _, 0, _, .cons r _, e => by simp at e; subst e; exact ⟨_, rfl, r⟩
  | _, _, i + 1, d, .cons _ t, e => by
    obtain ⟨v, h1, h2⟩ := XVs.get (i := i) (x := d) t (by simpa using e)
    exact ⟨v, by simpa using h1, h2⟩
end
def Sl.xv (mg : Str → Option Value) (FN : Str → List Str) (x : Xd) : Sl := .plain (fun K G o => ∃ v, o = some v ∧ XVd K mg FN G v x) fun g ⟨v, e, h⟩ => ⟨v, e, h.mono g⟩
def Sl.es (mg : Str → Option Value) (FN : Str → List Str) (xs : List Xd) : Sl := .plain (fun K G o => ∃ a vs, o = some (.ref a) ∧ G a = some (.lst vs) ∧ XVs K mg FN G vs xs) fun g ⟨a, vs, e, h, k⟩ => ⟨a, vs, e, g _ _ h, k.mono g⟩
/-! #### which class an error is of -/
def rowB : List Str → List Bool → Str → Option Bool
  | c :: cs, b :: bs, x => if (x == c) = true then some b else rowB cs bs x
  | _, _, _ => none
def tabB : List Str → List (List Bool) → List Str → Str → Str → Option Bool
  | d :: ds, r :: rs, cs, x, y => if (x == d) = true then rowB cs r y else tabB ds rs cs x y
  | _, _, _, _, _ => none
def isVO (ns cs : List Str) (tb : List (List Bool)) (x : Xd) (C : Str) : Option D := (tabB ns tb cs x.1 C).map PyData.bool
def kitRow (K : PySem.W.Frag) (a : Addr) : List (Str × Value) → List Bool → Bool
  | t :: cv, b :: bs => (match PySem.W.kitOne K (.ref a) t.2 with | some z => z == b | none => false) && kitRow K a cv bs
  | _, _ => true
def kitAll (K : PySem.W.Frag) (cv : List (Str × Value)) : List (Str × Addr) → List (List Bool) → Bool
  | t :: cl, r :: rs => kitRow K t.2 cv r && kitAll K cv cl rs
  | _, _ => true
structure XTokV (K : PySem.W.Frag) (mg : Str → Option Value) (cl : List (Str × Addr)) (cv : List (Str × Value)) (ns cs : List Str) (tb : List (List Bool)) : Prop where
  cls : ∀ t ∈ cl, mg t.1 = some (.ref t.2) ∧ ExcC K t.2
  kit : kitAll K cv cl tb = true
  n1 : cl.map (·.1) = ns
  n2 : cv.map (·.1) = cs
theorem row_get {K : PySem.W.Frag} {a : Addr} {C : Str} {u0 : Value} {b : Bool} : ∀ {cv : List (Str × Value)} {bs : List Bool}, kitRow K a cv bs = true → rowB (cv.map (·.1)) bs C = some b → cv.lookup C = some u0 → PySem.W.kitOne K (.ref a) u0 = some b
  | [], _, _, h, _ => by simp [rowB] at h
  | _ :: _, [], _, h, _ => by simp [rowB] at h
  | (c, v) :: cv, b' :: bs, k, h, l => by
    unfold kitRow at k
    rw [Bool.and_eq_true] at k
    rw [List.map_cons, rowB] at h
    rw [List.lookup_cons] at l
    cases hc : C == c with
    | true =>
      rw [hc] at l h
      rw [if_pos rfl] at h
      cases l; cases h
      have k1 := k.1
      dsimp only at k1
      cases hk : PySem.W.kitOne K (.ref a) u0 with
      | none => rw [hk] at k1; cases k1
      | some z => rw [hk] at k1; rw [eq_of_beq k1]
    | false =>
      rw [hc] at l h
      rw [if_neg (by decide)] at h
      exact row_get k.2 h l
theorem tab_get {K : PySem.W.Frag} {x C : Str} {u0 : Value} {b : Bool} {cv : List (Str × Value)} (l : cv.lookup C = some u0) : ∀ {cl : List (Str × Addr)} {rs : List (List Bool)}, kitAll K cv cl rs = true → tabB (cl.map (·.1)) rs (cv.map (·.1)) x C = some b → ∃ t ∈ cl, t.1 = x ∧ PySem.W.kitOne K (.ref t.2) u0 = some b
  | [], _, _, h => by simp [tabB] at h
  | _ :: _, [], _, h => by simp [tabB] at h
  | t :: cl, r :: rs, k, h => by
    unfold kitAll at k
    rw [Bool.and_eq_true] at k
    rw [List.map_cons, tabB] at h
    cases hc : x == t.1 with
    | true =>
      rw [hc, if_pos rfl] at h
      exact ⟨t, List.mem_cons_self, (eq_of_beq hc).symm, row_get k.1 h l⟩
    | false =>
      rw [hc, if_neg (by decide)] at h
      obtain ⟨t', h1, h2⟩ := tab_get l k.2 h
      exact ⟨t', List.mem_cons_of_mem _ h1, h2⟩
theorem XTokV.get {K : PySem.W.Frag} {mg : Str → Option Value} {cl : List (Str × Addr)} {cv : List (Str × Value)} {ns cs : List Str} {tb : List (List Bool)} (T : XTokV K mg cl cv ns cs tb) {x C : Str} {u0 : Value} {b : Bool} (e : tabB ns tb cs x C = some b) (l : cv.lookup C = some u0) :
    ∃ f, mg x = some (.ref f) ∧ ExcC K f ∧ PySem.W.kitOne K (.ref f) u0 = some b := by
  rw [← T.n1, ← T.n2] at e
  obtain ⟨t, h1, h2, h3⟩ := tab_get l T.kit e
  obtain ⟨g1, g2⟩ := T.cls t h1
  exact ⟨t.2, h2 ▸ g1, g2, h3⟩
/-! #### expressions -/
def DE (K : PySem.W.Frag) (mg : Str → Option Value) (FN : Str → List Str) (env : En) (t : TE) (r : Option Xd) : Prop := ∀ σ (G H : Hp) (Q : VK) x, SE K env σ G → Same G H → r = some x → (∀ v G' H', Ext G H G' H' → XVd K mg FN G' v x → Q v H') → t σ H Q
def DEA (K : PySem.W.Frag) (mg : Str → Option Value) (FN : Str → List Str) (env : En) (t : TA) (r : Option (List Xd)) : Prop := ∀ σ (G H : Hp) (Q : List V → Hp → Prop) xs, SE K env σ G → Same G H → r = some xs → (∀ vs G' H', Ext G H G' H' → XVs K mg FN G' vs xs → Q vs H') → t σ H Q
def DEs (K : PySem.W.Frag) (mg : Str → Option Value) (FN : Str → List Str) (env : En) (t : TE) (r : Option (List Xd)) : Prop := ∀ σ (G H : Hp) (Q : VK) xs, SE K env σ G → Same G H → r = some xs → (∀ a vs G' H', Ext G H G' H' → G' a = some (.lst vs) → XVs K mg FN G' vs xs → Q (.ref a) H') → t σ H Q
def consX (a : Option Xd) (r : Option (List Xd)) : Option (List Xd) := a.bind fun x => r.bind fun xs => some (x :: xs)
def szX (xs : List Xd) : Option (List Xd) := if xs.length ≤ sizeLine then some xs else none
def catX (a b : Option (List Xd)) : Option (List Xd) := a.bind fun x => b.bind fun y => if x.length + y.length ≤ sizeLine then some (x ++ y) else none
def ixX (a : Option (List Xd)) (k : Option D) : Option Xd := a.bind fun xs => k.bind fun d => match d with
  | .int i => atI xs i
  | _ => none
def toX {α : Type} (r : Option (List Xd)) : Out (List Xd) α := match r with
  | some x => .nx x
  | none => .no
section
variable {K : PySem.W.Frag} {mg : Str → Option Value} {FN : Str → List Str} {env : En} {te tk ta tb : TE} {tA : TA} {rx : Option Xd} {rA : Option (List D)} {ra : Option D} {rs rt : Option (List Xd)} {α β : Type} {en : α → En} {eb : β → En} {M : Md}
theorem de_new0 {C : Addr} {c : Str} (hC : mg c = some (.ref C)) : DE K mg FN env (fun _ H Q => ∀ a, H a = none → Q (.ref a) (upd H a (ExO (.ref C) a))) (some (c, [])) := fun σ G H Q x s g e q a ha => by
  cases e
  exact q _ (upd G a (ExO (.ref C) a)) _ (Ext.new g ha) ⟨a, C, rfl, hC, .inl ⟨rfl, upd_same⟩⟩
theorem de_newF {C : Addr} {c : Str} {fs : List Str} (hC : mg c = some (.ref C)) (T : OexC K C) (hno : ∀ f ∈ fs, PySem.W.findIn K (.ref C) f = some none) (hFN : FN c = fs.reverse) (hz : fs.length ≤ 1000) (h : DA K env tA rA) :
    DE K mg FN env (tExF C (spI K fs) tA) (rA.bind (mkX c fs.length)) := fun σ G H Q x s g e q => by
  obtain ⟨ds, e1, e2⟩ := bind_some e
  unfold mkX at e2
  by_cases hc : ds.length = fs.length ∧ fs.length ≠ 0
  · rw [if_pos hc] at e2
    cases e2
    refine h σ G H _ ds s g e1 fun vs G1 H1 E1 h1 => ⟨by rw [dpa_len h1, hc.1]; exact hz, fun a ha => ?_⟩
    refine ⟨a, C, vs, rfl, by rw [dpa_len h1, hc.1], T, hno, upd_same, fun d H2 ea ed hd ne oth => ⟨rfl, ?_⟩⟩
    rw [upd_ne ne] at hd
    have ez : (fs.zip vs).reverse = (FN c).zip vs.reverse := by
      rw [hFN, List.zip_eq_zipWith, List.zip_eq_zipWith, List.reverse_zipWith]
      rw [dpa_len h1, hc.1]
    have ha2 : upd H1 d (exd d (fs.zip vs).reverse) a = none := by rw [upd_ne (Ne.symm ne)]; exact ha
    have eq : H2 = upd (upd H1 d (exd d (fs.zip vs).reverse)) a (exo a C (some d)) := by
      funext b
      by_cases hb : b = a
      · subst hb; rw [upd_same]; exact ea
      · rw [upd_ne hb]
        by_cases hbd : b = d
        · subst hbd; rw [upd_same]; exact ed
        · rw [upd_ne hbd, oth b hb hbd, upd_ne hb]
    rw [eq]
    have E2 : Ext G1 H1 (upd G1 d (exd d (fs.zip vs).reverse)) (upd H1 d (exd d (fs.zip vs).reverse)) := Ext.new E1.gh hd
    have E3 : Ext (upd G1 d (exd d (fs.zip vs).reverse)) (upd H1 d (exd d (fs.zip vs).reverse)) (upd (upd G1 d (exd d (fs.zip vs).reverse)) a (exo a C (some d))) (upd (upd H1 d (exd d (fs.zip vs).reverse)) a (exo a C (some d))) := Ext.new E2.gh ha2
    refine q _ _ _ (E1.trans (E2.trans E3)) ⟨a, C, rfl, hC, .inr ⟨d, vs.reverse, upd_same, ?_, dpa_mono (E2.gg.trans E3.gg) _ _ (dpa_rev h1)⟩⟩
    rw [upd_ne ne, upd_same, ez]
  · rw [if_neg hc] at e2; cases e2
theorem de_var {x : Xd} (i : Nat) (h : env[i]? = some (Sl.xv mg FN x) := by rfl) : DE K mg FN env (tVar i) (some x) := fun σ G H Q y s g e q => by
  cases e
  obtain ⟨o, h1, v, rfl, h2⟩ := s.at' i _ h
  exact ⟨v, h1, q v G H (Ext.refl g) h2⟩
theorem des_var {xs : List Xd} (i : Nat) (h : env[i]? = some (Sl.es mg FN xs) := by rfl) : DEs K mg FN env (tVar i) (some xs) := fun σ G H Q y s g e q => by
  cases e
  obtain ⟨o, h1, a, vs, rfl, h2, h3⟩ := s.at' i _ h
  exact ⟨_, h1, q a vs G H (Ext.refl g) h2 h3⟩
theorem dea_nil : DEA K mg FN env tNil (some []) := fun σ G H Q x s g e q => by
  cases e; exact q [] G H (Ext.refl g) .nil
theorem dea_cons (ha : DE K mg FN env ta rx) (hr : DEA K mg FN env tA rs) : DEA K mg FN env (tCons ta tA) (consX rx rs) := fun σ G H Q d s g e q => by
  obtain ⟨x, ex, e⟩ := bind_some e
  obtain ⟨xs, exs, e⟩ := bind_some e
  cases e
  refine ha σ G H _ x s g ex fun v G1 H1 E1 h1 => ?_
  refine hr σ G1 H1 _ xs (s.mono E1.gg) E1.gh exs fun vs G2 H2 E2 h2 => ?_
  exact q (v :: vs) G2 H2 (E1.trans E2) (.cons (h1.mono E2.gg) h2)
theorem des_lst (h : DEA K mg FN env tA rs) : DEs K mg FN env (tLst tA) (rs.bind szX) := fun σ G H Q d s g e q => by
  obtain ⟨ds, e1, e2⟩ := bind_some e
  unfold szX at e2
  by_cases hz : ds.length ≤ sizeLine
  · rw [if_pos hz] at e2; cases e2
    refine h σ G H _ d s g e1 fun vs G1 H1 E1 h1 => ⟨by rw [h1.len]; exact hz, fun p hp => ?_⟩
    have gp : G1 p = none := E1.gh.free hp
    exact q p vs (upd G1 p (.lst vs)) _ (E1.trans (Ext.new E1.gh hp)) upd_same (h1.mono (same_upd gp))
  · rw [if_neg hz] at e2; cases e2
theorem des_add (ha : DEs K mg FN env ta rs) (hb : DEs K mg FN env tb rt) : DEs K mg FN env (tOp rAddX ta tb) (catX rs rt) := fun σ G H Q d s g e q => by
  obtain ⟨x, ex, e⟩ := bind_some e
  obtain ⟨y, ey, e⟩ := bind_some e
  by_cases hz : x.length + y.length ≤ sizeLine
  · rw [if_pos hz] at e; cases e
    refine ha σ G H _ x s g ex fun a vs G1 H1 E1 h1 k1 => ?_
    refine hb σ G1 H1 _ y (s.mono E1.gg) E1.gh ey fun b ws G2 H2 E2 h2 k2 => ?_
    have E12 := E1.trans E2
    refine .inr (.inr ⟨a, b, vs, ws, rfl, rfl, rd_mono E2.gh (.inl (E2.gg _ _ h1)), rd_mono E2.gh (.inl h2), by rw [k1.len, k2.len]; exact hz, fun p hp => ?_⟩)
    have gp : G2 p = none := E2.gh.free hp
    exact q p _ (upd G2 p (.lst (vs ++ ws))) _ (E12.trans (Ext.new E2.gh hp)) upd_same (((k1.mono E2.gg).app k2).mono (same_upd gp))
  · rw [if_neg hz] at e; cases e
theorem de_ix (ha : DEs K mg FN env ta rs) (hk : DV K env tk ra) : DE K mg FN env (tOp (rIx K) ta tk) (ixX rs ra) := fun σ G H Q d s g e q => by
  obtain ⟨x, ex, e⟩ := bind_some e
  obtain ⟨y, ey, e⟩ := bind_some e
  match y, ey, e with
  | .int i, ey, e =>
    replace e : atI x i = some d := e
    refine ha σ G H _ x s g ex fun a vs G1 H1 E1 h1 k1 => ?_
    refine hk σ G1 H1 _ _ (s.mono E1.gg) E1.gh ey fun w G2 H2 E2 h2 => ?_
    cases h2
    unfold atI at e
    obtain ⟨j, e1, e2⟩ := bind_some e
    obtain ⟨v, f1, f2⟩ := (k1.mono E2.gg).get e2
    refine .inl ⟨a, vs, i, v, rfl, rfl, .inl (rd_mono E2.gh (.inl (E2.gg _ _ h1))), ?_, q v G2 H2 (E1.trans E2) f2⟩
    unfold atI
    rw [k1.len, e1]
    exact f1
theorem ds_setE {i : Nat} (h : DEs K mg FN (noOw env) te rs) : DS K M env (tAsg te (gName i)) (fun d => env.set i (.es mg FN d)) eb (toX rs) := fun σ G0 H0 B G H T s q => by
  cases rs with
  | none => exact q.elim
  | some d => exact h σ G H _ d s.shd s.ext.gh rfl fun a vs G' H' E h1 h2 => q _ G' H' ((s.ext' E).put (Ext.refl (s.ext' E).ext.gh) (sl := .es mg FN d) (S := []) i ⟨rfl, a, vs, rfl, h1, h2⟩ fun b hb => by cases hb)
theorem dv_fldV {P : Program} {w : World} {base : Heap} {C : Addr} {c f : Str} {fs : List Str} (F : XFld P w K mg base c C fs) (hFN : FN c = fs.reverse) (h : DE K mg FN env te rx) :
    DV K env (tXv C f te) (rx.bind fun x => fldO c fs.reverse x f) := fun σ G H Q r s g e q => by
  obtain ⟨x, ex, e⟩ := bind_some e
  unfold fldO at e
  by_cases hc : x.1 = c
  · rw [if_pos hc] at e
    refine h σ G H _ x s g ex fun v G1 H1 E1 h1 => ?_
    obtain ⟨a, C', rfl, g1, g2⟩ := h1
    have : C' = C := by
      have k := F.g
      rw [hc, k] at g1; cases g1; rfl
    subst this
    rcases g2 with ⟨g3, _⟩ | ⟨dd, vs, g3, g4, g5⟩
    · rw [g3] at e; simp at e
    · rw [hc, hFN] at g4
      obtain ⟨v, l, hv⟩ := dpa_lookup g5 e
      exact ⟨a, dd, _, v, rfl, E1.gh _ _ g3, E1.gh _ _ g4, l, q v G1 H1 E1 hv⟩
  · rw [if_neg hc] at e; cases e
theorem dv_isV {ns cs : List Str} {tb : List (List Bool)} {cl : List (Str × Addr)} {cv : List (Str × Value)} {C : Str} {y : V} {u0 : Value} (T : XTokV K mg cl cv ns cs tb) (hw : cv.lookup C = some u0) (hy : ∀ u, RelV y u → u = u0) (h : DE K mg FN env te rx) :
    DV K env (tCB (rIsV K) (tCons te (tCons (tC y) tNil))) (rx.bind fun x => isVO ns cs tb x C) := fun σ G H Q r s g e q => by
  obtain ⟨x, ex, e⟩ := bind_some e
  obtain ⟨b, e1, e2⟩ := map_some e
  subst e2
  refine h σ G H _ x s g ex fun v G1 H1 E1 h1 => ?_
  obtain ⟨a, D, rfl, g1, g2⟩ := h1
  obtain ⟨f, k1, k2, k3⟩ := T.get e1 hw
  rw [g1] at k1; cases k1
  refine ⟨a, D, y, u0, b, rfl, k2, ?_, hy, k3, q _ G1 H1 E1 (.bl b)⟩
  rcases g2 with ⟨_, g3⟩ | ⟨dd, vs, g3, g4, _⟩
  · exact .inl (E1.gh _ _ g3)
  · exact .inr ⟨dd, _, E1.gh _ _ g3, E1.gh _ _ g4⟩
end
/-! #### defs whose first argument is an error -/
def spEx (K : PySem.W.Frag) (mg : Str → Option Value) (FN : Str → List Str) (m : Xd → List D → Option D) : Sp := fun vs H Q _ => ∃ (G : Hp) (x : Xd) (v : V) (us : List V) (ds : List D) (d : D), vs = v :: us ∧ Same G H ∧ XVd K mg FN G v x ∧ DpAll K G us ds ∧ m x ds = some d ∧ ∀ v G' H', Ext G H G' H' → Dp K G' v d → Q v H'
structure DfE (P : Program) (w : World) (K : PySem.W.Frag) (mg : Str → Option Value) (FN : Str → List Str) (base : Heap) (k : Nat) (x : Str) (ps : List Str) (m : Xd → List D → Option D) : Prop where
  ex : ∃ f fd, mg x = some (.ref f) ∧ PySem.W.keepIn K (.ref f) = true ∧ Binds K fd ps [] ∧ FnOk P w K mg base CX0 k f fd ps (spEx K mg FN m)
theorem sls_sh {K : PySem.W.Frag} {G : Hp} : ∀ {vs : List V} {ds : List D}, DpAll K G vs ds → SlsOk K G (ds.map Sl.sh) vs
  | _, _, .nil => .nil
  | _, _, .cons (v := v) h t => .cons rfl ⟨v, rfl, h⟩ (sls_sh t)
section
variable {P : Program} {w : World} {K : PySem.W.Frag} {mg : Str → Option Value} {FN : Str → List Str} {base : Heap} {x qual : Str} {st : Stmt} {f : Addr} {fd : FuncData} {N ps : List Str} {k : Nat}
theorem dfE_mk {m : Xd → List D → Option D} (F : Fun K x qual st f fd) (S : FnScope N ps (defScope st)) (hm : mg x = some (.ref f)) (hb : Binds K fd ps []) (hl : ∀ y ds d, m y ds = some d → ds.length + 1 = ps.length) (hN : ps.length ≤ N.length)
    (body : ∀ (cdv : Value) (A : Around) (outer : List Env) (s : Shared) (H : Hp) (E : XK), Room k (A.deeper (envOfC qual (defScope st) s.heap.objs.size f cdv)) →
      ∃ t, PSs (cxOf CX0 P w K mg base N qual (defScope st) f cdv A outer s H E).nox (defBody st) t ∧
        ∀ y ds d, m y ds = some d → ∃ (β : Type) (eb : β → En) (α : Type) (en : α → En) (o : Out α β), DS K (.no (RtS K)) ((Sl.xv mg FN y :: ds.map Sl.sh) ++ List.replicate (N.length - (Sl.xv mg FN y :: ds.map Sl.sh).length) Sl.un) t en eb o ∧ o.run = some d) : DfE P w K mg FN base (k + 1) x ps m := by
  refine ⟨f, fd, hm, F.kp, hb, ?_⟩
  refine F.ok S (fun vs H Q E h => ?_) fun cdv A outer s H vs Q E hr h => ?_
  · obtain ⟨G, y, v, us, ds, d, rfl, _, _, ha, e, _⟩ := h
    rw [List.length_cons, dpa_len ha]; exact hl y ds d e
  · obtain ⟨t, h1, h2⟩ := body cdv A outer s H E hr
    refine ⟨t, h1, ?_⟩
    obtain ⟨G, y, v, us, ds, d, rfl, g, hx, ha, e, q⟩ := h
    obtain ⟨β, eb, α, en, o, hd, ho⟩ := h2 y ds d e
    have hs : SlsOk K G (Sl.xv mg FN y :: ds.map Sl.sh) (v :: us) := .cons rfl ⟨v, rfl, hx⟩ (sls_sh ha)
    refine hd _ G H G G H _ (start_any g hs (by rw [List.length_cons, List.length_map, hl y ds d e]; exact hN)) ?_
    cases o with
    | nx a => cases ho; exact fun σ G' H' s => q .non G' H' s.ext .non
    | rt d' => cases ho; exact fun v G' H' r => q v G' H' r.1 r.2
    | bk b => cases ho
    | ct b => cases ho
    | no => cases ho
    | xc x => cases ho
theorem kDfE {X : Cx} {k : Nat} {x : Str} {ps : List Str} {e : Expr} {es : List Expr} {t : TA} {p pos : Pos} (K : PySem.W.Frag) {m : Xd → List D → Option D} (d : DfE P w K mg FN base k x ps m) (hr : Room k X.A) (hg : Gl X x) (ha : PA X (e :: es) t)
    (h1 : X.prog = P := by rfl) (h2 : X.w = w := by rfl) (h3 : X.K = K := by rfl) (h4 : X.mg = mg := by rfl) (h5 : X.base = base := by rfl) (hdb : (x == ("__debug__" : Str)) = false := by decide)
    (he : starEach (e :: es) X.env = (false, eval e X.env) :: starEach es X.env := by rfl) (hpl : (backTo pos (starEach es X.env)).any (·.1) = false := by rfl) :
    PE X (.Call (.Name x p) (e :: es) [] pos) (tCall (spEx K mg FN m) [] E0 t) := by
  subst h1; subst h2; subst h3; subst h4; subst h5
  obtain ⟨f, fd, g1, g2, g3, g4⟩ := d.ex
  exact pe_call g4 hr hg g1 g2 g3 .nil pass0 ha hdb he hpl
end
section
variable {K : PySem.W.Frag} {mg : Str → Option Value} {FN : Str → List Str} {env : En} {te : TE} {tA : TA} {rx : Option Xd} {rA : Option (List D)}
theorem dv_callE {m : Xd → List D → Option D} {E : XK} (he : DE K mg FN env te rx) (h : DA K env tA rA) : DV K env (tCall (spEx K mg FN m) [] E (tCons te tA)) (rx.bind fun x => rA.bind (m x)) := fun σ G H Q d s g e q => by
  obtain ⟨x, ex, e⟩ := bind_some e
  obtain ⟨ds, e1, e2⟩ := bind_some e
  refine he σ G H _ x s g ex fun v G1 H1 E1 h1 => ?_
  refine h σ G1 H1 _ ds (s.mono E1.gg) E1.gh e1 fun vs G2 H2 E2 h2 => ?_
  exact ⟨G2, x, v, vs, ds, d, by rw [List.append_nil], E2.gh, h1.mono E2.gg, h2, e2, fun u G3 H3 E3 h3 => q u G3 H3 ((E1.trans E2).trans E3) h3⟩
end
end Dl

set_option Elab.async false
set_option linter.all false
set_option maxRecDepth 100000
set_option maxHeartbeats 4000000
namespace Lw
open PySem PySem.Spec PyProof.Rows L2 Dl
def topS (i : Nat) : Stmt := PySem.Challenge.pw_oddcrown_k00_errors_stand_apart.main.body.getD i (.Pass ⟨0, 0, 0, 0⟩)
def xns : List Str := ["BadChance", "BadEntry", "BadKind", "BadMark", "BadNumber", "BadSize", "BadStrategy", "BadTarget", "BadText", "LastBranch", "NoBranch", "NotHere", "NotSo", "NothingToRedo", "NothingToUndo", "TwoNames", "UnknownName"]
def xcs : List Str := ["BadChance", "BadEntry", "BadKind", "BadMark", "BadNumber", "BadSize", "BadStrategy", "BadTarget", "BadText", "CrownError", "LastBranch", "NoBranch", "NotHere", "NotSo", "NothingToRedo", "NothingToUndo", "TwoNames", "UnknownName", "ValueError"]
def xtb : List (List Bool) := [[true, false, false, false, false, false, false, false, false, true, false, false, false, false, false, false, false, false, true], [false, true, false, false, false, false, false, false, false, true, false, false, false, false, false, false, false, false, true], [false, false, true, false, false, false, false, false, false, true, false, false, false, false, false, false, false, false, true], [false, false, false, true, false, false, false, false, false, true, false, false, false, false, false, false, false, false, true], [false, false, false, false, true, false, false, false, false, true, false, false, false, false, false, false, false, false, true], [false, false, false, false, false, true, false, false, false, true, false, false, false, false, false, false, false, false, true], [false, false, false, false, false, false, true, false, false, true, false, false, false, false, false, false, false, false, true], [false, false, false, false, false, false, false, true, false, true, false, false, false, false, false, false, false, false, true], [false, false, false, false, false, false, false, false, true, true, false, false, false, false, false, false, false, false, true], [false, false, false, false, false, false, false, false, false, true, true, false, false, false, false, false, false, false, true], [false, false, false, false, false, false, false, false, false, true, false, true, false, false, false, false, false, false, true], [false, false, false, false, false, false, false, false, false, true, false, false, true, false, false, false, false, false, true], [false, false, false, false, false, false, false, false, false, true, false, false, false, true, false, false, false, false, true], [false, false, false, false, false, false, false, false, false, true, false, false, false, false, true, false, false, false, true], [false, false, false, false, false, false, false, false, false, true, false, false, false, false, false, true, false, false, true], [false, false, false, false, false, false, false, false, false, true, false, false, false, false, false, false, true, false, true], [false, false, false, false, false, false, false, false, false, true, false, false, false, false, false, false, false, true, true]]
def xtab : XTab := []
def fnX : Str → List Str := fun c => if c = "BadStrategy" then (["place"] : List Str).reverse else if c = "BadText" then (["line", "column"] : List Str).reverse else if c = "UnknownName" then (["line", "column"] : List Str).reverse else if c = "TwoNames" then (["line"] : List Str).reverse else if c = "BadEntry" then (["place"] : List Str).reverse else []
abbrev sI_BadEntry : Stmt := clsS (topS 18)
abbrev sI_BadStrategy : Stmt := clsS (topS 8)
abbrev sI_BadText : Stmt := clsS (topS 9)
abbrev sI_TwoNames : Stmt := clsS (topS 11)
abbrev sI_UnknownName : Stmt := clsS (topS 10)
abbrev s__law_draws : Stmt := topS 20
abbrev N__law_draws : List Str := ["script", "count", "rests", "draws", "k", "value", "at", "mixed", "cell"]
def b__law_draws_1  : List D × List D → D → Out (List D × List D) (List D × List D) :=
  fun (s7, s8) v9 => (Out.bind (toO (some (.int 0))) fun v10 =>
 (Out.bind (ifO (Option.bind (op2 gtD (Option.bind (consO (some (.list s7)) (some [])) lenD) (some (.int 0))) asB) (Out.bind (toO (atomO (op2 modD (Option.bind (consO (some v9) (some [])) intTD) (Option.bind (consO (some (.list s7)) (some [])) lenD)))) fun v13 =>
 (Out.bind (ifO (Option.bind (op2 geD (op2 ixD (some (.list s7)) (some v13)) (op2 powD (some (.int 10)) (some (.int 18)))) asB) (Out.bind (toO (atomO (op2 modD (Option.bind (consO (op2 ixD (some (.list s7)) (some v13)) (some [])) intTD) (some (.int 1000))))) fun v16 =>
 (Out.bind (toO (setIO s7 (op2 fdivD (op2 ixD (some (.list s7)) (some v13)) (some (.int 1000))) (some v13))) fun v17 => .nx (v16, v17))) (Out.bind (toO (atomO (op2 modD (Option.bind (consO (op2 addD (op2 addD (op2 mulX (op2 ixD (some (.list s7)) (some v13)) (some (.int 48271))) (op2 mulX (some v9) (some (.int 69621)))) (some (.int 11))) (some [])) intTD) (some (.int 2147483647))))) fun v18 =>
 (Out.bind (toO (op2 modD (Option.bind (consO (op2 addD (op2 mulX (some v18) (some (.int 16807))) (some v13)) (some [])) intTD) (some (.int 2147483629)))) fun v19 =>
 (Out.bind (toO (op2 modD (Option.bind (consO (op2 fdivD (some v19) (some (.int 7))) (some [])) intTD) (some (.int 1000)))) fun v20 => .nx (v20, s7))))) fun (s14, s15) => .nx (s14, s15))) (.nx (v10, s7))) fun (s11, s12) =>
 (Out.bind (toO (Option.bind (some s11) (addL s8))) fun v21 => .nx (s12, v21))))
def m__law_draws (ns : List Int) : List D → Option D
  | [a1] => Out.run (α := Unit) (β := Unit) (Out.bind (toO (Option.bind (some (ns.map PyData.int)) (lcZ (fun v3 => (some true)) (fun v3 => (some v3))))) fun v2 =>
 (Out.bind (toO (Option.bind (some []) szL)) fun v4 =>
 (Out.bind (forR b__law_draws_1 (Option.bind (consO (some a1) (some [])) rng1D) (v2, v4)) fun (s7, s8) =>
 (toR (some (.list s8))))))
  | _ => none
abbrev s__law_marks : Stmt := topS 22
abbrev N__law_marks : List Str := ["e", "marks"]
def m__law_marks (x0 : Xd) : List D → Option D
  | [] => Out.run (α := Unit) (β := Unit) (Out.bind (toO (newO (Option.bind (some []) szL))) fun v1 =>
 (Out.bind (toO (op2 addD (some v1) (newO (Option.bind (consO (Option.bind (some x0) fun x => isVO xns xcs xtb x "BadSize") (consO (Option.bind (some x0) fun x => isVO xns xcs xtb x "BadMark") (consO (Option.bind (some x0) fun x => isVO xns xcs xtb x "BadKind") (consO (Option.bind (some x0) fun x => isVO xns xcs xtb x "BadNumber") (some []))))) szL)))) fun v2 =>
 (Out.bind (toO (op2 addD (some v2) (newO (Option.bind (consO (Option.bind (some x0) fun x => isVO xns xcs xtb x "BadChance") (consO (Option.bind (some x0) fun x => isVO xns xcs xtb x "BadTarget") (consO (Option.bind (some x0) fun x => isVO xns xcs xtb x "NotHere") (consO (Option.bind (some x0) fun x => isVO xns xcs xtb x "NoBranch") (some []))))) szL)))) fun v3 =>
 (Out.bind (toO (op2 addD (some v3) (newO (Option.bind (consO (Option.bind (some x0) fun x => isVO xns xcs xtb x "NotSo") (consO (Option.bind (some x0) fun x => isVO xns xcs xtb x "LastBranch") (consO (Option.bind (some x0) fun x => isVO xns xcs xtb x "NothingToUndo") (consO (Option.bind (some x0) fun x => isVO xns xcs xtb x "NothingToRedo") (some []))))) szL)))) fun v4 =>
 (Out.bind (toO (op2 addD (some v4) (newO (Option.bind (consO (Option.bind (some x0) fun x => isVO xns xcs xtb x "BadStrategy") (consO (Option.bind (some x0) fun x => isVO xns xcs xtb x "BadText") (consO (Option.bind (some x0) fun x => isVO xns xcs xtb x "UnknownName") (consO (Option.bind (some x0) fun x => isVO xns xcs xtb x "TwoNames") (some []))))) szL)))) fun v5 =>
 (Out.bind (toO (op2 addD (some v5) (newO (Option.bind (consO (Option.bind (some x0) fun x => isVO xns xcs xtb x "BadEntry") (some [])) szL)))) fun v6 =>
 (toR (some v6))))))))
  | _ => none
abbrev s__law_alone : Stmt := topS 23
abbrev N__law_alone : List Str := ["e", "at", "marks", "k"]
def m__law_alone (x0 : Xd) : List D → Option D
  | [a1] => Out.run (α := Unit) (β := Unit) (Out.bind (ifO (orT (notT (Option.bind (Option.bind (some x0) fun x => isVO xns xcs xtb x "CrownError") asB)) (notT (Option.bind (Option.bind (some x0) fun x => isVO xns xcs xtb x "ValueError") asB))) (toR (some (.bool false))) (.nx ())) fun () =>
 (Out.bind (toO (Option.bind (some x0) fun x => Option.bind (some []) (m__law_marks x))) fun v2 =>
 (toR (Option.bind (consO (newO (Option.bind (Option.bind (consO (Option.bind (consO (some v2) (some [])) lenD) (some [])) rng1D) (lcZ (fun v3 => (some true)) (fun v3 => (op2 eqX (op2 ixD (some v2) (some v3)) (op2 eqX (some v3) (some a1))))))) (some [])) allD))))
  | _ => none
abbrev s__law_plain_errors : Stmt := topS 24
abbrev N__law_plain_errors : List Str := ["good"]
def m__law_plain_errors : List D → Option D
  | [] => Out.run (α := Unit) (β := Unit) (Out.bind (toO (newO (Option.bind (some []) szL))) fun v1 =>
 (Out.bind (toO (op2 addD (some v1) (newO (Option.bind (consO (Option.bind (some (("BadSize", []) : Xd)) fun x => Option.bind (consO (some (.int 0)) (some [])) (m__law_alone x)) (consO (Option.bind (some (("BadMark", []) : Xd)) fun x => Option.bind (consO (some (.int 1)) (some [])) (m__law_alone x)) (consO (Option.bind (some (("BadKind", []) : Xd)) fun x => Option.bind (consO (some (.int 2)) (some [])) (m__law_alone x)) (some [])))) szL)))) fun v2 =>
 (Out.bind (toO (op2 addD (some v2) (newO (Option.bind (consO (Option.bind (some (("BadNumber", []) : Xd)) fun x => Option.bind (consO (some (.int 3)) (some [])) (m__law_alone x)) (consO (Option.bind (some (("BadChance", []) : Xd)) fun x => Option.bind (consO (some (.int 4)) (some [])) (m__law_alone x)) (consO (Option.bind (some (("BadTarget", []) : Xd)) fun x => Option.bind (consO (some (.int 5)) (some [])) (m__law_alone x)) (some [])))) szL)))) fun v3 =>
 (Out.bind (toO (op2 addD (some v3) (newO (Option.bind (consO (Option.bind (some (("NotHere", []) : Xd)) fun x => Option.bind (consO (some (.int 6)) (some [])) (m__law_alone x)) (consO (Option.bind (some (("NoBranch", []) : Xd)) fun x => Option.bind (consO (some (.int 7)) (some [])) (m__law_alone x)) (consO (Option.bind (some (("NotSo", []) : Xd)) fun x => Option.bind (consO (some (.int 8)) (some [])) (m__law_alone x)) (some [])))) szL)))) fun v4 =>
 (Out.bind (toO (op2 addD (some v4) (newO (Option.bind (consO (Option.bind (some (("LastBranch", []) : Xd)) fun x => Option.bind (consO (some (.int 9)) (some [])) (m__law_alone x)) (consO (Option.bind (some (("NothingToUndo", []) : Xd)) fun x => Option.bind (consO (some (.int 10)) (some [])) (m__law_alone x)) (consO (Option.bind (some (("NothingToRedo", []) : Xd)) fun x => Option.bind (consO (some (.int 11)) (some [])) (m__law_alone x)) (some [])))) szL)))) fun v5 =>
 (toR (Option.bind (consO (some v5) (some [])) allD)))))))
  | _ => none
abbrev s_law : Stmt := topS 25
abbrev N_law : List Str := ["script", "draws", "errors", "k"]
def m_law (ns : List Int) : List D → Option D
  | [] => Out.run (α := Unit) (β := Unit) (Out.bind (toO (Option.bind (consO (some (.int 10)) (some [])) (m__law_draws ns))) fun v1 =>
 (Out.bind (toX (Option.bind (consX (Option.bind (consO (Option.bind (consO (op2 ixD (some v1) (some (.int 0))) (some [])) intTD) (some [])) (mkX "BadStrategy" 1)) (consX (Option.bind (consO (Option.bind (consO (op2 ixD (some v1) (some (.int 1))) (some [])) intTD) (consO (op2 addD (Option.bind (consO (op2 ixD (some v1) (some (.int 2))) (some [])) intTD) (some (.int 1))) (some []))) (mkX "BadText" 2)) (some []))) szX)) fun v2 =>
 (Out.bind (toX (catX (some v2) (Option.bind (consX (Option.bind (consO (Option.bind (consO (op2 ixD (some v1) (some (.int 3))) (some [])) intTD) (consO (op2 addD (Option.bind (consO (op2 ixD (some v1) (some (.int 4))) (some [])) intTD) (some (.int 1))) (some []))) (mkX "UnknownName" 2)) (consX (Option.bind (consO (Option.bind (consO (op2 ixD (some v1) (some (.int 5))) (some [])) intTD) (some [])) (mkX "TwoNames" 1)) (consX (Option.bind (consO (Option.bind (consO (op2 ixD (some v1) (some (.int 6))) (some [])) intTD) (some [])) (mkX "BadEntry" 1)) (some [])))) szX))) fun v3 =>
 (Out.bind (ifO (orT (Option.bind (op2 neX (Option.bind (ixX (some v3) (some (.int 0))) fun x => fldO "BadStrategy" ((["place"] : List Str).reverse) x "place") (Option.bind (consO (op2 ixD (some v1) (some (.int 0))) (some [])) intTD)) asB) (orT (Option.bind (op2 neX (Option.bind (ixX (some v3) (some (.int 4))) fun x => fldO "BadEntry" ((["place"] : List Str).reverse) x "place") (Option.bind (consO (op2 ixD (some v1) (some (.int 6))) (some [])) intTD)) asB) (Option.bind (op2 neX (Option.bind (ixX (some v3) (some (.int 3))) fun x => fldO "TwoNames" ((["line"] : List Str).reverse) x "line") (Option.bind (consO (op2 ixD (some v1) (some (.int 5))) (some [])) intTD)) asB))) (toR (some (.bool false))) (.nx ())) fun () =>
 (Out.bind (ifO (orT (Option.bind (op2 neX (Option.bind (ixX (some v3) (some (.int 1))) fun x => fldO "BadText" ((["line", "column"] : List Str).reverse) x "line") (Option.bind (consO (op2 ixD (some v1) (some (.int 1))) (some [])) intTD)) asB) (Option.bind (op2 neX (Option.bind (ixX (some v3) (some (.int 1))) fun x => fldO "BadText" ((["line", "column"] : List Str).reverse) x "column") (op2 addD (Option.bind (consO (op2 ixD (some v1) (some (.int 2))) (some [])) intTD) (some (.int 1)))) asB)) (toR (some (.bool false))) (.nx ())) fun () =>
 (Out.bind (ifO (orT (Option.bind (op2 neX (Option.bind (ixX (some v3) (some (.int 2))) fun x => fldO "UnknownName" ((["line", "column"] : List Str).reverse) x "line") (Option.bind (consO (op2 ixD (some v1) (some (.int 3))) (some [])) intTD)) asB) (Option.bind (op2 neX (Option.bind (ixX (some v3) (some (.int 2))) fun x => fldO "UnknownName" ((["line", "column"] : List Str).reverse) x "column") (op2 addD (Option.bind (consO (op2 ixD (some v1) (some (.int 4))) (some [])) intTD) (some (.int 1)))) asB)) (toR (some (.bool false))) (.nx ())) fun () =>
 (Out.bind (ifO (notT (Option.bind (Option.bind (consO (newO (Option.bind (Option.bind (consO (some (.int 5)) (some [])) rng1D) (lcZ (fun v4 => (some true)) (fun v4 => (Option.bind (ixX (some v3) (some v4)) fun x => Option.bind (consO (op2 addD (some (.int 12)) (some v4)) (some [])) (m__law_alone x)))))) (some [])) allD) asB)) (toR (some (.bool false))) (.nx ())) fun () =>
 (toR (Option.bind (some []) m__law_plain_errors)))))))))
  | _ => none
end Lw

set_option Elab.async false
set_option linter.all false
set_option maxRecDepth 100000
set_option maxHeartbeats 4000000
namespace Lw
open PySem PySem.Spec PyProof.Rows L2 Dl
section
variable {FN : Str → List Str} {CV : Str → Value} {cl : List (Str × Addr)} {cv : List (Str × Value)}
variable {P : Program} {w : World} {K : PySem.W.Frag} {mg : Str → Option Value} {base : Heap}
theorem scI_BadEntry : FnScope ["self", "place"] ["self", "place"] (defScope sI_BadEntry) := ⟨rfl, rfl, rfl, by decide +kernel, rfl, by decide +kernel, by decide +kernel⟩
theorem okI_BadEntry {f : Addr} {fd : FuncData} (F : Fun K "__init__" "BadEntry.__init__" sI_BadEntry f fd) : FnOk P w K mg base CX0 1 f fd ["self", "place"] (spI K ["place"]) := init_fn1 F scI_BadEntry fun cdv A outer s H E => pss_one (ps_ost (pv 0) (pv 1))
theorem scI_BadStrategy : FnScope ["self", "place"] ["self", "place"] (defScope sI_BadStrategy) := ⟨rfl, rfl, rfl, by decide +kernel, rfl, by decide +kernel, by decide +kernel⟩
theorem okI_BadStrategy {f : Addr} {fd : FuncData} (F : Fun K "__init__" "BadStrategy.__init__" sI_BadStrategy f fd) : FnOk P w K mg base CX0 1 f fd ["self", "place"] (spI K ["place"]) := init_fn1 F scI_BadStrategy fun cdv A outer s H E => pss_one (ps_ost (pv 0) (pv 1))
theorem scI_BadText : FnScope ["self", "line", "column"] ["self", "line", "column"] (defScope sI_BadText) := ⟨rfl, rfl, rfl, by decide +kernel, rfl, by decide +kernel, by decide +kernel⟩
theorem okI_BadText {f : Addr} {fd : FuncData} (F : Fun K "__init__" "BadText.__init__" sI_BadText f fd) : FnOk P w K mg base CX0 1 f fd ["self", "line", "column"] (spI K ["line", "column"]) := init_fn2 F scI_BadText fun cdv A outer s H E => pss_cons (ps_ost (pv 0) (pv 1)) (pss_one (ps_ost (pv 0) (pv 2)))
theorem scI_TwoNames : FnScope ["self", "line"] ["self", "line"] (defScope sI_TwoNames) := ⟨rfl, rfl, rfl, by decide +kernel, rfl, by decide +kernel, by decide +kernel⟩
theorem okI_TwoNames {f : Addr} {fd : FuncData} (F : Fun K "__init__" "TwoNames.__init__" sI_TwoNames f fd) : FnOk P w K mg base CX0 1 f fd ["self", "line"] (spI K ["line"]) := init_fn1 F scI_TwoNames fun cdv A outer s H E => pss_one (ps_ost (pv 0) (pv 1))
theorem scI_UnknownName : FnScope ["self", "line", "column"] ["self", "line", "column"] (defScope sI_UnknownName) := ⟨rfl, rfl, rfl, by decide +kernel, rfl, by decide +kernel, by decide +kernel⟩
theorem okI_UnknownName {f : Addr} {fd : FuncData} (F : Fun K "__init__" "UnknownName.__init__" sI_UnknownName f fd) : FnOk P w K mg base CX0 1 f fd ["self", "line", "column"] (spI K ["line", "column"]) := init_fn2 F scI_UnknownName fun cdv A outer s H E => pss_cons (ps_ost (pv 0) (pv 1)) (pss_one (ps_ost (pv 0) (pv 2)))
end
end Lw

set_option Elab.async false
set_option linter.all false
set_option maxRecDepth 100000
set_option maxHeartbeats 4000000
namespace Lw
open PySem PySem.Spec PyProof.Rows L2 Dl
section
variable {FN : Str → List Str} {CV : Str → Value} {cl : List (Str × Addr)} {cv : List (Str × Value)}
variable {P : Program} {w : World} {K : PySem.W.Frag} {mg : Str → Option Value} {base : Heap}
theorem sc_law : FnScope N_law ["script"] (defScope s_law) := ⟨rfl, rfl, rfl, by decide +kernel, rfl, by decide +kernel, by decide +kernel⟩
theorem ok_law {f : Addr} {fd : FuncData} (F : Fun K "law" "law" s_law f fd) (n_all : mg "all" = none) (n_int : mg "int" = none) (n_range : mg "range" = none) {C_BadEntry : Addr} (XF_BadEntry : XFld P w K mg base "BadEntry" C_BadEntry (["place"] : List Str)) (fn_BadEntry : FN "BadEntry" = (["place"] : List Str).reverse) {C_BadStrategy : Addr} (XF_BadStrategy : XFld P w K mg base "BadStrategy" C_BadStrategy (["place"] : List Str)) (fn_BadStrategy : FN "BadStrategy" = (["place"] : List Str).reverse) {C_BadText : Addr} (XF_BadText : XFld P w K mg base "BadText" C_BadText (["line", "column"] : List Str)) (fn_BadText : FN "BadText" = (["line", "column"] : List Str).reverse) {C_TwoNames : Addr} (XF_TwoNames : XFld P w K mg base "TwoNames" C_TwoNames (["line"] : List Str)) (fn_TwoNames : FN "TwoNames" = (["line"] : List Str).reverse) {C_UnknownName : Addr} (XF_UnknownName : XFld P w K mg base "UnknownName" C_UnknownName (["line", "column"] : List Str)) (fn_UnknownName : FN "UnknownName" = (["line", "column"] : List Str).reverse) (D__law_draws : DfS P w K mg base 1 "_law_draws" ["script", "count"] m__law_draws) (DE__law_alone : DfE P w K mg FN base 2 "_law_alone" ["e", "at"] m__law_alone) (D__law_plain_errors : Df P w K mg base 3 "_law_plain_errors" [] m__law_plain_errors) : FnOk P w K mg base CX0 4 f fd ["script"] (spS K m_law) := by
  refine fnS_mk F sc_law (fun ns ds d h => ?_) (by decide) fun cdv A outer s H E hr => ⟨_, pss_cons (ps_set (i := 1) sc_law.nd rfl (Or.inl rfl) (kDfS K D__law_draws (hr.mono (by decide)) (by rfl) (pa_cons (pv 0) (pa_cons (pe_int) (pa_nil)))))
 (pss_cons (ps_set (i := 2) sc_law.nd rfl (Or.inr rfl) (pe_lst (pa_cons (kNewF K XF_BadStrategy hr (by decide) (by rfl) (pa_cons (pe_callTy cr_intX (by rfl) n_int (by decide +kernel) (pa_cons (pe_ix (kIx K) (pv 1) (pe_int) (fun _ _ => rfl)) (pa_nil))) (pa_nil))) (pa_cons (kNewF K XF_BadText hr (by decide) (by rfl) (pa_cons (pe_callTy cr_intX (by rfl) n_int (by decide +kernel) (pa_cons (pe_ix (kIx K) (pv 1) (pe_int) (fun _ _ => rfl)) (pa_nil))) (pa_cons (pe_op op_addX (pe_callTy cr_intX (by rfl) n_int (by decide +kernel) (pa_cons (pe_ix (kIx K) (pv 1) (pe_int) (fun _ _ => rfl)) (pa_nil))) (pe_int)) (pa_nil)))) (pa_nil)))))
 (pss_cons (ps_set (i := 2) sc_law.nd rfl (Or.inr rfl) (pe_op op_addX (pv 2) (pe_lst (pa_cons (kNewF K XF_UnknownName hr (by decide) (by rfl) (pa_cons (pe_callTy cr_intX (by rfl) n_int (by decide +kernel) (pa_cons (pe_ix (kIx K) (pv 1) (pe_int) (fun _ _ => rfl)) (pa_nil))) (pa_cons (pe_op op_addX (pe_callTy cr_intX (by rfl) n_int (by decide +kernel) (pa_cons (pe_ix (kIx K) (pv 1) (pe_int) (fun _ _ => rfl)) (pa_nil))) (pe_int)) (pa_nil)))) (pa_cons (kNewF K XF_TwoNames hr (by decide) (by rfl) (pa_cons (pe_callTy cr_intX (by rfl) n_int (by decide +kernel) (pa_cons (pe_ix (kIx K) (pv 1) (pe_int) (fun _ _ => rfl)) (pa_nil))) (pa_nil))) (pa_cons (kNewF K XF_BadEntry hr (by decide) (by rfl) (pa_cons (pe_callTy cr_intX (by rfl) n_int (by decide +kernel) (pa_cons (pe_ix (kIx K) (pv 1) (pe_int) (fun _ _ => rfl)) (pa_nil))) (pa_nil))) (pa_nil)))))))
 (pss_cons (ps_if ((pw_or (pt_cmpR (kNeX K rfl hr.units) (pe_xv XF_BadStrategy.x (XF_BadStrategy.n _ (by decide)) (pe_ix (kIx K) (pv 2) (pe_int) (fun _ _ => rfl))) (pe_callTy cr_intX (by rfl) n_int (by decide +kernel) (pa_cons (pe_ix (kIx K) (pv 1) (pe_int) (fun _ _ => rfl)) (pa_nil))) (nomark _)) (pw_or (pt_cmpR (kNeX K rfl hr.units) (pe_xv XF_BadEntry.x (XF_BadEntry.n _ (by decide)) (pe_ix (kIx K) (pv 2) (pe_int) (fun _ _ => rfl))) (pe_callTy cr_intX (by rfl) n_int (by decide +kernel) (pa_cons (pe_ix (kIx K) (pv 1) (pe_int) (fun _ _ => rfl)) (pa_nil))) (nomark _)) (pw_or1 (pt_cmpR (kNeX K rfl hr.units) (pe_xv XF_TwoNames.x (XF_TwoNames.n _ (by decide)) (pe_ix (kIx K) (pv 2) (pe_int) (fun _ _ => rfl))) (pe_callTy cr_intX (by rfl) n_int (by decide +kernel) (pa_cons (pe_ix (kIx K) (pv 1) (pe_int) (fun _ _ => rfl)) (pa_nil))) (nomark _))))).pt) (pss_one (ps_ret (pe_bl))) (pss_nil))
 (pss_cons (ps_if ((pw_or (pt_cmpR (kNeX K rfl hr.units) (pe_xv XF_BadText.x (XF_BadText.n _ (by decide)) (pe_ix (kIx K) (pv 2) (pe_int) (fun _ _ => rfl))) (pe_callTy cr_intX (by rfl) n_int (by decide +kernel) (pa_cons (pe_ix (kIx K) (pv 1) (pe_int) (fun _ _ => rfl)) (pa_nil))) (nomark _)) (pw_or1 (pt_cmpR (kNeX K rfl hr.units) (pe_xv XF_BadText.x (XF_BadText.n _ (by decide)) (pe_ix (kIx K) (pv 2) (pe_int) (fun _ _ => rfl))) (pe_op op_addX (pe_callTy cr_intX (by rfl) n_int (by decide +kernel) (pa_cons (pe_ix (kIx K) (pv 1) (pe_int) (fun _ _ => rfl)) (pa_nil))) (pe_int)) (nomark _)))).pt) (pss_one (ps_ret (pe_bl))) (pss_nil))
 (pss_cons (ps_if ((pw_or (pt_cmpR (kNeX K rfl hr.units) (pe_xv XF_UnknownName.x (XF_UnknownName.n _ (by decide)) (pe_ix (kIx K) (pv 2) (pe_int) (fun _ _ => rfl))) (pe_callTy cr_intX (by rfl) n_int (by decide +kernel) (pa_cons (pe_ix (kIx K) (pv 1) (pe_int) (fun _ _ => rfl)) (pa_nil))) (nomark _)) (pw_or1 (pt_cmpR (kNeX K rfl hr.units) (pe_xv XF_UnknownName.x (XF_UnknownName.n _ (by decide)) (pe_ix (kIx K) (pv 2) (pe_int) (fun _ _ => rfl))) (pe_op op_addX (pe_callTy cr_intX (by rfl) n_int (by decide +kernel) (pa_cons (pe_ix (kIx K) (pv 1) (pe_int) (fun _ _ => rfl)) (pa_nil))) (pe_int)) (nomark _)))).pt) (pss_one (ps_ret (pe_bl))) (pss_nil))
 (pss_cons (ps_if (pt_not (pt_val (pe_callB (kAll K) (by rfl) n_all (by decide +kernel) (pa_cons (pe_lc (own := [("k", 3)]) (g := gName 3) rfl sc_law.nd (pi_range1 (by rfl) n_range (pa_cons (pe_int) (pa_nil))) (blkOk_by (N := N_law) (sc := defScope s_law) (own := [("k", 3)]) (by decide +kernel)) (fun _ _ _ _ _ => pg_name (i := 3) sc_law.nd rfl (Or.inl rfl)) (fun _ _ _ _ _ => pts_nil) (fun _ _ _ _ _ => kDfE K DE__law_alone (hr.mono (by decide)) (by rfl) (pa_cons (pe_ix (kIx K) (pv 2) (pv 3) (fun _ _ => rfl)) (pa_cons (pe_op op_addX (pe_int) (pv 3)) (pa_nil))))) (pa_nil))))) (pss_one (ps_ret (pe_bl))) (pss_nil))
 (pss_one (ps_ret (kDf0 K D__law_plain_errors (hr.mono (by decide)) (by rfl)))))))))), fun ns ds d h => ?_⟩
  · match ds, h with
    | [], h => rfl
  · match ds, h with
    | [], h => exact ⟨Unit, fun _ => [], Unit, fun _ => [], _, ds_seq (ds_set (i := 1) (dv_callS 0 (da_cons (dv_int 10) (da_nil)))) (fun v1 =>
 ds_seq (ds_setE (i := 2) (des_lst (dea_cons (de_newF XF_BadStrategy.g XF_BadStrategy.o XF_BadStrategy.n fn_BadStrategy (by decide) (da_cons (dv_cb cd_int (da_cons (dv_op od_ix (dv_var 1) (dv_int 0)) (da_nil))) (da_nil))) (dea_cons (de_newF XF_BadText.g XF_BadText.o XF_BadText.n fn_BadText (by decide) (da_cons (dv_cb cd_int (da_cons (dv_op od_ix (dv_var 1) (dv_int 1)) (da_nil))) (da_cons (dv_op od_add (dv_cb cd_int (da_cons (dv_op od_ix (dv_var 1) (dv_int 2)) (da_nil))) (dv_int 1)) (da_nil)))) (dea_nil))))) (fun v2 =>
 ds_seq (ds_setE (i := 2) (des_add (des_var 2) (des_lst (dea_cons (de_newF XF_UnknownName.g XF_UnknownName.o XF_UnknownName.n fn_UnknownName (by decide) (da_cons (dv_cb cd_int (da_cons (dv_op od_ix (dv_var 1) (dv_int 3)) (da_nil))) (da_cons (dv_op od_add (dv_cb cd_int (da_cons (dv_op od_ix (dv_var 1) (dv_int 4)) (da_nil))) (dv_int 1)) (da_nil)))) (dea_cons (de_newF XF_TwoNames.g XF_TwoNames.o XF_TwoNames.n fn_TwoNames (by decide) (da_cons (dv_cb cd_int (da_cons (dv_op od_ix (dv_var 1) (dv_int 5)) (da_nil))) (da_nil))) (dea_cons (de_newF XF_BadEntry.g XF_BadEntry.o XF_BadEntry.n fn_BadEntry (by decide) (da_cons (dv_cb cd_int (da_cons (dv_op od_ix (dv_var 1) (dv_int 6)) (da_nil))) (da_nil))) (dea_nil))))))) (fun v3 =>
 ds_seq (ds_if (en := fun (_ : Unit) => [.sq ns, .sh v1, .es mg FN v3, .un]) (dt_or (dt_test (dv_op od_neX (dv_fldV XF_BadStrategy fn_BadStrategy (de_ix (des_var 2) (dv_int 0))) (dv_cb cd_int (da_cons (dv_op od_ix (dv_var 1) (dv_int 0)) (da_nil))))) (dt_or (dt_test (dv_op od_neX (dv_fldV XF_BadEntry fn_BadEntry (de_ix (des_var 2) (dv_int 4))) (dv_cb cd_int (da_cons (dv_op od_ix (dv_var 1) (dv_int 6)) (da_nil))))) (dt_test (dv_op od_neX (dv_fldV XF_TwoNames fn_TwoNames (de_ix (des_var 2) (dv_int 3))) (dv_cb cd_int (da_cons (dv_op od_ix (dv_var 1) (dv_int 5)) (da_nil))))))) (ds_ret (dv_bl false)) (ds_nil (en := (fun (_ : Unit) => [.sq ns, .sh v1, .es mg FN v3, .un])) (a := ()) (Le.cons (.refl _) (Le.cons (.refl _) (Le.cons (.refl _) (Le.cons (.refl _) (Le.nil))))))) (fun () =>
 ds_seq (ds_if (en := fun (_ : Unit) => [.sq ns, .sh v1, .es mg FN v3, .un]) (dt_or (dt_test (dv_op od_neX (dv_fldV XF_BadText fn_BadText (de_ix (des_var 2) (dv_int 1))) (dv_cb cd_int (da_cons (dv_op od_ix (dv_var 1) (dv_int 1)) (da_nil))))) (dt_test (dv_op od_neX (dv_fldV XF_BadText fn_BadText (de_ix (des_var 2) (dv_int 1))) (dv_op od_add (dv_cb cd_int (da_cons (dv_op od_ix (dv_var 1) (dv_int 2)) (da_nil))) (dv_int 1))))) (ds_ret (dv_bl false)) (ds_nil (en := (fun (_ : Unit) => [.sq ns, .sh v1, .es mg FN v3, .un])) (a := ()) (Le.cons (.refl _) (Le.cons (.refl _) (Le.cons (.refl _) (Le.cons (.refl _) (Le.nil))))))) (fun () =>
 ds_seq (ds_if (en := fun (_ : Unit) => [.sq ns, .sh v1, .es mg FN v3, .un]) (dt_or (dt_test (dv_op od_neX (dv_fldV XF_UnknownName fn_UnknownName (de_ix (des_var 2) (dv_int 2))) (dv_cb cd_int (da_cons (dv_op od_ix (dv_var 1) (dv_int 3)) (da_nil))))) (dt_test (dv_op od_neX (dv_fldV XF_UnknownName fn_UnknownName (de_ix (des_var 2) (dv_int 2))) (dv_op od_add (dv_cb cd_int (da_cons (dv_op od_ix (dv_var 1) (dv_int 4)) (da_nil))) (dv_int 1))))) (ds_ret (dv_bl false)) (ds_nil (en := (fun (_ : Unit) => [.sq ns, .sh v1, .es mg FN v3, .un])) (a := ()) (Le.cons (.refl _) (Le.cons (.refl _) (Le.cons (.refl _) (Le.cons (.refl _) (Le.nil))))))) (fun () =>
 ds_seq (ds_if (en := fun (_ : Unit) => [.sq ns, .sh v1, .es mg FN v3, .un]) (dt_not (dt_b (dv_cb cd_all (da_cons (dv_new (dl_lcN (j := 3) (di_rng1 (da_cons (dv_int 5) (da_nil))) (fun v4 => dt_yes) (fun v4 => dv_callE (de_ix (des_var 2) (dv_var 3)) (da_cons (dv_op od_add (dv_int 12) (dv_var 3)) (da_nil))))) (da_nil))))) (ds_ret (dv_bl false)) (ds_nil (en := (fun (_ : Unit) => [.sq ns, .sh v1, .es mg FN v3, .un])) (a := ()) (Le.cons (.refl _) (Le.cons (.refl _) (Le.cons (.refl _) (Le.cons (.refl _) (Le.nil))))))) (fun () =>
 ds_ret (dv_call da_nil)))))))), h⟩
end
end Lw

set_option Elab.async false
set_option linter.all false
set_option maxRecDepth 100000
set_option maxHeartbeats 4000000
namespace Lw
open PySem PySem.Spec PyProof.Rows L2 Dl
section
variable {FN : Str → List Str} {CV : Str → Value} {cl : List (Str × Addr)} {cv : List (Str × Value)}
variable {P : Program} {w : World} {K : PySem.W.Frag} {mg : Str → Option Value} {base : Heap}
theorem sc__law_marks : FnScope N__law_marks ["e"] (defScope s__law_marks) := ⟨rfl, rfl, rfl, by decide +kernel, rfl, by decide +kernel, by decide +kernel⟩
theorem okE__law_marks {f : Addr} {fd : FuncData} (F : Fun K "_law_marks" "_law_marks" s__law_marks f fd) (hm : mg "_law_marks" = some (.ref f)) (n_isinstance : mg "isinstance" = none) {C_BadEntry : Addr} (XF_BadEntry : XFld P w K mg base "BadEntry" C_BadEntry (["place"] : List Str)) (fn_BadEntry : FN "BadEntry" = (["place"] : List Str).reverse) {C_BadStrategy : Addr} (XF_BadStrategy : XFld P w K mg base "BadStrategy" C_BadStrategy (["place"] : List Str)) (fn_BadStrategy : FN "BadStrategy" = (["place"] : List Str).reverse) {C_BadText : Addr} (XF_BadText : XFld P w K mg base "BadText" C_BadText (["line", "column"] : List Str)) (fn_BadText : FN "BadText" = (["line", "column"] : List Str).reverse) {C_TwoNames : Addr} (XF_TwoNames : XFld P w K mg base "TwoNames" C_TwoNames (["line"] : List Str)) (fn_TwoNames : FN "TwoNames" = (["line"] : List Str).reverse) {C_UnknownName : Addr} (XF_UnknownName : XFld P w K mg base "UnknownName" C_UnknownName (["line", "column"] : List Str)) (fn_UnknownName : FN "UnknownName" = (["line", "column"] : List Str).reverse) {C_BadChance : Addr} (X_BadChance : XCls K mg "BadChance" C_BadChance) {C_BadKind : Addr} (X_BadKind : XCls K mg "BadKind" C_BadKind) {C_BadMark : Addr} (X_BadMark : XCls K mg "BadMark" C_BadMark) {C_BadNumber : Addr} (X_BadNumber : XCls K mg "BadNumber" C_BadNumber) {C_BadSize : Addr} (X_BadSize : XCls K mg "BadSize" C_BadSize) {C_BadTarget : Addr} (X_BadTarget : XCls K mg "BadTarget" C_BadTarget) {C_LastBranch : Addr} (X_LastBranch : XCls K mg "LastBranch" C_LastBranch) {C_NoBranch : Addr} (X_NoBranch : XCls K mg "NoBranch" C_NoBranch) {C_NotHere : Addr} (X_NotHere : XCls K mg "NotHere" C_NotHere) {C_NotSo : Addr} (X_NotSo : XCls K mg "NotSo" C_NotSo) {C_NothingToRedo : Addr} (X_NothingToRedo : XCls K mg "NothingToRedo" C_NothingToRedo) {C_NothingToUndo : Addr} (X_NothingToUndo : XCls K mg "NothingToUndo" C_NothingToUndo) (w_BadChance : cv.lookup ("BadChance" : Str) = some (.ref C_BadChance)) (w_BadEntry : cv.lookup ("BadEntry" : Str) = some (.ref C_BadEntry)) (w_BadKind : cv.lookup ("BadKind" : Str) = some (.ref C_BadKind)) (w_BadMark : cv.lookup ("BadMark" : Str) = some (.ref C_BadMark)) (w_BadNumber : cv.lookup ("BadNumber" : Str) = some (.ref C_BadNumber)) (w_BadSize : cv.lookup ("BadSize" : Str) = some (.ref C_BadSize)) (w_BadStrategy : cv.lookup ("BadStrategy" : Str) = some (.ref C_BadStrategy)) (w_BadTarget : cv.lookup ("BadTarget" : Str) = some (.ref C_BadTarget)) (w_BadText : cv.lookup ("BadText" : Str) = some (.ref C_BadText)) (w_LastBranch : cv.lookup ("LastBranch" : Str) = some (.ref C_LastBranch)) (w_NoBranch : cv.lookup ("NoBranch" : Str) = some (.ref C_NoBranch)) (w_NotHere : cv.lookup ("NotHere" : Str) = some (.ref C_NotHere)) (w_NotSo : cv.lookup ("NotSo" : Str) = some (.ref C_NotSo)) (w_NothingToRedo : cv.lookup ("NothingToRedo" : Str) = some (.ref C_NothingToRedo)) (w_NothingToUndo : cv.lookup ("NothingToUndo" : Str) = some (.ref C_NothingToUndo)) (w_TwoNames : cv.lookup ("TwoNames" : Str) = some (.ref C_TwoNames)) (w_UnknownName : cv.lookup ("UnknownName" : Str) = some (.ref C_UnknownName)) (TV : XTokV K mg cl cv xns xcs xtb) : DfE P w K mg FN base 1 "_law_marks" ["e"] m__law_marks := by
  refine dfE_mk F sc__law_marks hm (F.binds fun _ _ _ _ _ _ us hl => match us, hl with | [_], _ => rfl) (fun y ds d h => ?_) (by decide) fun cdv A outer s H E hr => ⟨_, pss_cons (ps_set (i := 1) sc__law_marks.nd rfl (Or.inl rfl) (pe_lst (pa_nil)))
 (pss_cons (ps_set (i := 1) sc__law_marks.nd rfl (Or.inl rfl) (pe_op op_addX (pv 1) (pe_lst (pa_cons (pe_callB (kIsV K) (by rfl) n_isinstance (by decide +kernel) (pa_cons (pv 0) (pa_cons (pe_glob (v := .ref C_BadSize) (by rfl) X_BadSize.g rfl) pa_nil))) (pa_cons (pe_callB (kIsV K) (by rfl) n_isinstance (by decide +kernel) (pa_cons (pv 0) (pa_cons (pe_glob (v := .ref C_BadMark) (by rfl) X_BadMark.g rfl) pa_nil))) (pa_cons (pe_callB (kIsV K) (by rfl) n_isinstance (by decide +kernel) (pa_cons (pv 0) (pa_cons (pe_glob (v := .ref C_BadKind) (by rfl) X_BadKind.g rfl) pa_nil))) (pa_cons (pe_callB (kIsV K) (by rfl) n_isinstance (by decide +kernel) (pa_cons (pv 0) (pa_cons (pe_glob (v := .ref C_BadNumber) (by rfl) X_BadNumber.g rfl) pa_nil))) (pa_nil))))))))
 (pss_cons (ps_set (i := 1) sc__law_marks.nd rfl (Or.inl rfl) (pe_op op_addX (pv 1) (pe_lst (pa_cons (pe_callB (kIsV K) (by rfl) n_isinstance (by decide +kernel) (pa_cons (pv 0) (pa_cons (pe_glob (v := .ref C_BadChance) (by rfl) X_BadChance.g rfl) pa_nil))) (pa_cons (pe_callB (kIsV K) (by rfl) n_isinstance (by decide +kernel) (pa_cons (pv 0) (pa_cons (pe_glob (v := .ref C_BadTarget) (by rfl) X_BadTarget.g rfl) pa_nil))) (pa_cons (pe_callB (kIsV K) (by rfl) n_isinstance (by decide +kernel) (pa_cons (pv 0) (pa_cons (pe_glob (v := .ref C_NotHere) (by rfl) X_NotHere.g rfl) pa_nil))) (pa_cons (pe_callB (kIsV K) (by rfl) n_isinstance (by decide +kernel) (pa_cons (pv 0) (pa_cons (pe_glob (v := .ref C_NoBranch) (by rfl) X_NoBranch.g rfl) pa_nil))) (pa_nil))))))))
 (pss_cons (ps_set (i := 1) sc__law_marks.nd rfl (Or.inl rfl) (pe_op op_addX (pv 1) (pe_lst (pa_cons (pe_callB (kIsV K) (by rfl) n_isinstance (by decide +kernel) (pa_cons (pv 0) (pa_cons (pe_glob (v := .ref C_NotSo) (by rfl) X_NotSo.g rfl) pa_nil))) (pa_cons (pe_callB (kIsV K) (by rfl) n_isinstance (by decide +kernel) (pa_cons (pv 0) (pa_cons (pe_glob (v := .ref C_LastBranch) (by rfl) X_LastBranch.g rfl) pa_nil))) (pa_cons (pe_callB (kIsV K) (by rfl) n_isinstance (by decide +kernel) (pa_cons (pv 0) (pa_cons (pe_glob (v := .ref C_NothingToUndo) (by rfl) X_NothingToUndo.g rfl) pa_nil))) (pa_cons (pe_callB (kIsV K) (by rfl) n_isinstance (by decide +kernel) (pa_cons (pv 0) (pa_cons (pe_glob (v := .ref C_NothingToRedo) (by rfl) X_NothingToRedo.g rfl) pa_nil))) (pa_nil))))))))
 (pss_cons (ps_set (i := 1) sc__law_marks.nd rfl (Or.inl rfl) (pe_op op_addX (pv 1) (pe_lst (pa_cons (pe_callB (kIsV K) (by rfl) n_isinstance (by decide +kernel) (pa_cons (pv 0) (pa_cons (pe_glob (v := .ref C_BadStrategy) (by rfl) XF_BadStrategy.g rfl) pa_nil))) (pa_cons (pe_callB (kIsV K) (by rfl) n_isinstance (by decide +kernel) (pa_cons (pv 0) (pa_cons (pe_glob (v := .ref C_BadText) (by rfl) XF_BadText.g rfl) pa_nil))) (pa_cons (pe_callB (kIsV K) (by rfl) n_isinstance (by decide +kernel) (pa_cons (pv 0) (pa_cons (pe_glob (v := .ref C_UnknownName) (by rfl) XF_UnknownName.g rfl) pa_nil))) (pa_cons (pe_callB (kIsV K) (by rfl) n_isinstance (by decide +kernel) (pa_cons (pv 0) (pa_cons (pe_glob (v := .ref C_TwoNames) (by rfl) XF_TwoNames.g rfl) pa_nil))) (pa_nil))))))))
 (pss_cons (ps_set (i := 1) sc__law_marks.nd rfl (Or.inl rfl) (pe_op op_addX (pv 1) (pe_lst (pa_cons (pe_callB (kIsV K) (by rfl) n_isinstance (by decide +kernel) (pa_cons (pv 0) (pa_cons (pe_glob (v := .ref C_BadEntry) (by rfl) XF_BadEntry.g rfl) pa_nil))) (pa_nil)))))
 (pss_one (ps_ret (pv 1)))))))), fun x0 ds d h => ?_⟩
  · match ds, h with
    | [], h => rfl
  · match ds, h with
    | [], h => exact ⟨Unit, fun _ => [], Unit, fun _ => [], _, ds_seq (ds_set (i := 1) (dv_new (dl_lst (da_nil)))) (fun v1 =>
 ds_seq (ds_set (i := 1) (dv_op od_add (dv_var 1) (dv_new (dl_lst (da_cons (dv_isV (C := "BadSize") (y := .ref C_BadSize) TV w_BadSize (fun u r => r) (de_var 0)) (da_cons (dv_isV (C := "BadMark") (y := .ref C_BadMark) TV w_BadMark (fun u r => r) (de_var 0)) (da_cons (dv_isV (C := "BadKind") (y := .ref C_BadKind) TV w_BadKind (fun u r => r) (de_var 0)) (da_cons (dv_isV (C := "BadNumber") (y := .ref C_BadNumber) TV w_BadNumber (fun u r => r) (de_var 0)) (da_nil))))))))) (fun v2 =>
 ds_seq (ds_set (i := 1) (dv_op od_add (dv_var 1) (dv_new (dl_lst (da_cons (dv_isV (C := "BadChance") (y := .ref C_BadChance) TV w_BadChance (fun u r => r) (de_var 0)) (da_cons (dv_isV (C := "BadTarget") (y := .ref C_BadTarget) TV w_BadTarget (fun u r => r) (de_var 0)) (da_cons (dv_isV (C := "NotHere") (y := .ref C_NotHere) TV w_NotHere (fun u r => r) (de_var 0)) (da_cons (dv_isV (C := "NoBranch") (y := .ref C_NoBranch) TV w_NoBranch (fun u r => r) (de_var 0)) (da_nil))))))))) (fun v3 =>
 ds_seq (ds_set (i := 1) (dv_op od_add (dv_var 1) (dv_new (dl_lst (da_cons (dv_isV (C := "NotSo") (y := .ref C_NotSo) TV w_NotSo (fun u r => r) (de_var 0)) (da_cons (dv_isV (C := "LastBranch") (y := .ref C_LastBranch) TV w_LastBranch (fun u r => r) (de_var 0)) (da_cons (dv_isV (C := "NothingToUndo") (y := .ref C_NothingToUndo) TV w_NothingToUndo (fun u r => r) (de_var 0)) (da_cons (dv_isV (C := "NothingToRedo") (y := .ref C_NothingToRedo) TV w_NothingToRedo (fun u r => r) (de_var 0)) (da_nil))))))))) (fun v4 =>
 ds_seq (ds_set (i := 1) (dv_op od_add (dv_var 1) (dv_new (dl_lst (da_cons (dv_isV (C := "BadStrategy") (y := .ref C_BadStrategy) TV w_BadStrategy (fun u r => r) (de_var 0)) (da_cons (dv_isV (C := "BadText") (y := .ref C_BadText) TV w_BadText (fun u r => r) (de_var 0)) (da_cons (dv_isV (C := "UnknownName") (y := .ref C_UnknownName) TV w_UnknownName (fun u r => r) (de_var 0)) (da_cons (dv_isV (C := "TwoNames") (y := .ref C_TwoNames) TV w_TwoNames (fun u r => r) (de_var 0)) (da_nil))))))))) (fun v5 =>
 ds_seq (ds_set (i := 1) (dv_op od_add (dv_var 1) (dv_new (dl_lst (da_cons (dv_isV (C := "BadEntry") (y := .ref C_BadEntry) TV w_BadEntry (fun u r => r) (de_var 0)) (da_nil)))))) (fun v6 =>
 ds_ret (dv_var 1))))))), h⟩
end
end Lw

set_option Elab.async false
set_option linter.all false
set_option maxRecDepth 100000
set_option maxHeartbeats 4000000
namespace Lw
open PySem PySem.Spec PyProof.Rows L2 Dl
section
variable {FN : Str → List Str} {CV : Str → Value} {cl : List (Str × Addr)} {cv : List (Str × Value)}
variable {P : Program} {w : World} {K : PySem.W.Frag} {mg : Str → Option Value} {base : Heap}
theorem sc__law_draws : FnScope N__law_draws ["script", "count"] (defScope s__law_draws) := ⟨rfl, rfl, rfl, by decide +kernel, rfl, by decide +kernel, by decide +kernel⟩
theorem ok__law_draws {f : Addr} {fd : FuncData} (F : Fun K "_law_draws" "_law_draws" s__law_draws f fd) (hm : mg "_law_draws" = some (.ref f)) (n_int : mg "int" = none) (n_len : mg "len" = none) (n_range : mg "range" = none) : DfS P w K mg base 1 "_law_draws" ["script", "count"] m__law_draws := by
  refine dfS_mk F sc__law_draws hm (F.binds fun _ _ _ _ _ _ us hl => match us, hl with | [_, _], _ => rfl) (fun ns ds d h => ?_) (by decide) fun cdv A outer s H E hr => ⟨_, pss_cons (ps_setLc (i := 2) (own := [("cell", 8)]) (g := gName 8) rfl sc__law_draws.nd rfl rfl (sw_true rfl rfl rfl (by decide +kernel)) (kiList K (pv 0)) (blkOk_by (N := N__law_draws) (sc := defScope s__law_draws) (own := [("cell", 8)]) (by decide +kernel)) (fun _ _ _ _ _ => pg_name (i := 8) sc__law_draws.nd rfl (Or.inl rfl)) (fun _ _ _ _ _ => pts_nil) (fun _ _ _ _ _ => pv 8))
 (pss_cons (ps_set (i := 3) sc__law_draws.nd rfl (Or.inl rfl) (pe_lst (pa_nil)))
 (pss_cons (ps_for PassesOwn.never rfl (pi_range1 (by rfl) n_range (pa_cons (pv 1) (pa_nil))) (pg_name (i := 4) sc__law_draws.nd rfl (Or.inl rfl)) (pss_cons (ps_set (i := 5) sc__law_draws.nd rfl (Or.inl rfl) (pe_int))
 (pss_cons (ps_if (pt_cmpR op_gt (pe_callB (kLen K) (by rfl) n_len (by decide +kernel) (pa_cons (pv 2) (pa_nil))) (pe_int) (nomark _)) (pss_cons (ps_set (i := 6) sc__law_draws.nd rfl (Or.inl rfl) (pe_op op_mod (pe_callTy cr_intX (by rfl) n_int (by decide +kernel) (pa_cons (pv 4) (pa_nil))) (pe_callB (kLen K) (by rfl) n_len (by decide +kernel) (pa_cons (pv 2) (pa_nil)))))
 (pss_one (ps_if (pt_cmpR op_ge (pe_ix (kIx K) (pv 2) (pv 6) (fun _ _ => rfl)) (pe_op op_pow (pe_int) (pe_int)) (nomark _)) (pss_cons (ps_set (i := 5) sc__law_draws.nd rfl (Or.inl rfl) (pe_op op_mod (pe_callTy cr_intX (by rfl) n_int (by decide +kernel) (pa_cons (pe_ix (kIx K) (pv 2) (pv 6) (fun _ _ => rfl)) (pa_nil))) (pe_int)))
 (pss_one (ps_asg (pe_op op_fdiv (pe_ix (kIx K) (pv 2) (pv 6) (fun _ _ => rfl)) (pe_int)) (pg_sub (pv 2) (pv 6) set_list (by intros; rfl))))) (pss_cons (ps_set (i := 7) sc__law_draws.nd rfl (Or.inl rfl) (pe_op op_mod (pe_callTy cr_intX (by rfl) n_int (by decide +kernel) (pa_cons (pe_op op_addX (pe_op op_addX (pe_op op_mulX' (pe_ix (kIx K) (pv 2) (pv 6) (fun _ _ => rfl)) (pe_int)) (pe_op op_mulX' (pv 4) (pe_int))) (pe_int)) (pa_nil))) (pe_int)))
 (pss_cons (ps_set (i := 7) sc__law_draws.nd rfl (Or.inl rfl) (pe_op op_mod (pe_callTy cr_intX (by rfl) n_int (by decide +kernel) (pa_cons (pe_op op_addX (pe_op op_mulX' (pv 7) (pe_int)) (pv 6)) (pa_nil))) (pe_int)))
 (pss_one (ps_set (i := 5) sc__law_draws.nd rfl (Or.inl rfl) (pe_op op_mod (pe_callTy cr_intX (by rfl) n_int (by decide +kernel) (pa_cons (pe_op op_fdiv (pv 7) (pe_int)) (pa_nil))) (pe_int))))))))) (pss_nil))
 (pss_one (ps_expr (pe_bm PySem.F.plainAttrs_list PySem.F.slot_list_append PySem.F.type_list_append mt_append (pv 3) (pa_cons (pv 5) pa_nil)))))))
 (pss_one (ps_ret (pv 3))))), fun ns ds d h => ?_⟩
  · match ds, h with
    | [a1], h => rfl
  · match ds, h with
    | [a1], h => exact ⟨Unit, fun _ => [], Unit, fun _ => [], _, ds_seq (ds_setL (i := 2) (dl_lcN (j := 8) (di_scr 0) (fun v3 => dt_yes) (fun v3 => dv_var 8))) (fun v2 =>
 ds_seq (ds_setL (i := 3) (dl_lst (da_nil))) (fun v4 =>
 ds_seq (ds_forN (j := 4) (e := fun (z : List D × List D) => match z with | (s7, s8) => [.sq ns, .sh a1, .ow s7, .ow s8, .un, .un, .un, .un, .un]) (body := fun (s7, s8) v9 => (Out.bind (toO (some (.int 0))) fun v10 =>
 (Out.bind (ifO (Option.bind (op2 gtD (Option.bind (consO (some (.list s7)) (some [])) lenD) (some (.int 0))) asB) (Out.bind (toO (atomO (op2 modD (Option.bind (consO (some v9) (some [])) intTD) (Option.bind (consO (some (.list s7)) (some [])) lenD)))) fun v13 =>
 (Out.bind (ifO (Option.bind (op2 geD (op2 ixD (some (.list s7)) (some v13)) (op2 powD (some (.int 10)) (some (.int 18)))) asB) (Out.bind (toO (atomO (op2 modD (Option.bind (consO (op2 ixD (some (.list s7)) (some v13)) (some [])) intTD) (some (.int 1000))))) fun v16 =>
 (Out.bind (toO (setIO s7 (op2 fdivD (op2 ixD (some (.list s7)) (some v13)) (some (.int 1000))) (some v13))) fun v17 => .nx (v16, v17))) (Out.bind (toO (atomO (op2 modD (Option.bind (consO (op2 addD (op2 addD (op2 mulX (op2 ixD (some (.list s7)) (some v13)) (some (.int 48271))) (op2 mulX (some v9) (some (.int 69621)))) (some (.int 11))) (some [])) intTD) (some (.int 2147483647))))) fun v18 =>
 (Out.bind (toO (op2 modD (Option.bind (consO (op2 addD (op2 mulX (some v18) (some (.int 16807))) (some v13)) (some [])) intTD) (some (.int 2147483629)))) fun v19 =>
 (Out.bind (toO (op2 modD (Option.bind (consO (op2 fdivD (some v19) (some (.int 7))) (some [])) intTD) (some (.int 1000)))) fun v20 => .nx (v20, s7))))) fun (s14, s15) => .nx (s14, s15))) (.nx (v10, s7))) fun (s11, s12) =>
 (Out.bind (toO (Option.bind (some s11) (addL s8))) fun v21 => .nx (s12, v21))))) (a0 := (v2, v4)) (di_rng1 (da_cons (dv_var 1) (da_nil))) (Le.cons (.refl _) (Le.cons (.refl _) (Le.cons (.refl _) (Le.cons (.refl _) (Le.cons (.refl _) (Le.cons (.refl _) (Le.cons (.refl _) (Le.cons (.refl _) (Le.cons (.refl _) (Le.nil)))))))))) (fun (s7, s8) v9 => ds_seq (ds_set (i := 5) (dv_int 0)) (fun v10 =>
 ds_seq (ds_if (en := fun (z : D × List D) => match z with | (s11, s12) => [.sq ns, .sh a1, .ow s12, .ow s8, .sh v9, .sh s11, .un, .un, .un]) (dt_test (dv_op od_gt (dv_cb cd_len (da_cons (dv_varO 2) (da_nil))) (dv_int 0))) (ds_seq (ds_setA (i := 6) (dv_op od_mod (dv_cb cd_int (da_cons (dv_var 4) (da_nil))) (dv_cb cd_len (da_cons (dv_varO 2) (da_nil))))) (fun v13 =>
 ds_end (ec := (fun (z : D × List D) => match z with | (s11, s12) => [.sq ns, .sh a1, .ow s12, .ow s8, .sh v9, .sh s11, .un, .un, .un])) (g := fun (s14, s15) => (s14, s15)) (fun (s14, s15) => Le.cons (.refl _) (Le.cons (.refl _) (Le.cons (.refl _) (Le.cons (.refl _) (Le.cons (.refl _) (Le.cons (.refl _) (Le.cons (.un _) (Le.cons (.refl _) (Le.cons (.refl _) (Le.nil)))))))))) (ds_if (en := fun (z : D × List D) => match z with | (s14, s15) => [.sq ns, .sh a1, .ow s15, .ow s8, .sh v9, .sh s14, .sh v13, .un, .un]) (dt_test (dv_op od_ge (dv_op od_ix (dv_varO 2) (dv_var 6)) (dv_op od_pow (dv_int 10) (dv_int 18)))) (ds_seq (ds_setA (i := 5) (dv_op od_mod (dv_cb cd_int (da_cons (dv_op od_ix (dv_varO 2) (dv_var 6)) (da_nil))) (dv_int 1000))) (fun v16 =>
 ds_end (ec := (fun (z : D × List D) => match z with | (s14, s15) => [.sq ns, .sh a1, .ow s15, .ow s8, .sh v9, .sh s14, .sh v13, .un, .un])) (g := fun v17 => (v16, v17)) (fun v17 => Le.cons (.refl _) (Le.cons (.refl _) (Le.cons (.refl _) (Le.cons (.refl _) (Le.cons (.refl _) (Le.cons (.refl _) (Le.cons (.refl _) (Le.cons (.refl _) (Le.cons (.refl _) (Le.nil)))))))))) (ds_setI (i := 2) rfl (dv_op od_fdiv (dv_op od_ix (dv_varO 2) (dv_var 6)) (dv_int 1000)) (dv_var 6)))) (ds_seq (ds_setA (i := 7) (dv_op od_mod (dv_cb cd_int (da_cons (dv_op od_add (dv_op od_add (dv_op od_mulX (dv_op od_ix (dv_varO 2) (dv_var 6)) (dv_int 48271)) (dv_op od_mulX (dv_var 4) (dv_int 69621))) (dv_int 11)) (da_nil))) (dv_int 2147483647))) (fun v18 =>
 ds_seq (ds_set (i := 7) (dv_op od_mod (dv_cb cd_int (da_cons (dv_op od_add (dv_op od_mulX (dv_var 7) (dv_int 16807)) (dv_var 6)) (da_nil))) (dv_int 2147483629))) (fun v19 =>
 ds_end (ec := (fun (z : D × List D) => match z with | (s14, s15) => [.sq ns, .sh a1, .ow s15, .ow s8, .sh v9, .sh s14, .sh v13, .un, .un])) (g := fun v20 => (v20, s7)) (fun v20 => Le.cons (.refl _) (Le.cons (.refl _) (Le.cons (.refl _) (Le.cons (.refl _) (Le.cons (.refl _) (Le.cons (.refl _) (Le.cons (.refl _) (Le.cons (.un _) (Le.cons (.refl _) (Le.nil)))))))))) (ds_set (i := 5) (dv_op od_mod (dv_cb cd_int (da_cons (dv_op od_fdiv (dv_var 7) (dv_int 7)) (da_nil))) (dv_int 1000))))))))) (ds_nil (en := (fun (z : D × List D) => match z with | (s11, s12) => [.sq ns, .sh a1, .ow s12, .ow s8, .sh v9, .sh s11, .un, .un, .un])) (a := (v10, s7)) (Le.cons (.refl _) (Le.cons (.refl _) (Le.cons (.refl _) (Le.cons (.refl _) (Le.cons (.refl _) (Le.cons (.refl _) (Le.cons (.refl _) (Le.cons (.refl _) (Le.cons (.refl _) (Le.nil)))))))))))) (fun (s11, s12) =>
 ds_end (ec := (fun (z : List D × List D) => match z with | (s7, s8) => [.sq ns, .sh a1, .ow s7, .ow s8, .un, .un, .un, .un, .un])) (g := fun v21 => (s12, v21)) (fun v21 => Le.cons (.refl _) (Le.cons (.refl _) (Le.cons (.refl _) (Le.cons (.refl _) (Le.cons (.un _) (Le.cons (.un _) (Le.cons (.refl _) (Le.cons (.refl _) (Le.cons (.refl _) (Le.nil)))))))))) (ds_app (i := 3) rfl (dv_var 5)))))) (fun (s7, s8) =>
 ds_weak (env' := [.sq ns, .sh a1, .ow s7, .sh (.list s8), .un, .un, .un, .un, .un]) (Le.cons (.refl _) (Le.cons (.refl _) (Le.cons (.refl _) (Le.cons (.frz _) (Le.cons (.refl _) (Le.cons (.refl _) (Le.cons (.refl _) (Le.cons (.refl _) (Le.cons (.refl _) (Le.nil)))))))))) (ds_ret (dv_var 3))))), h⟩
end
end Lw

set_option Elab.async false
set_option linter.all false
set_option maxRecDepth 100000
set_option maxHeartbeats 4000000
namespace Lw
open PySem PySem.Spec PyProof.Rows L2 Dl
section
variable {FN : Str → List Str} {CV : Str → Value} {cl : List (Str × Addr)} {cv : List (Str × Value)}
variable {P : Program} {w : World} {K : PySem.W.Frag} {mg : Str → Option Value} {base : Heap}
theorem sc__law_plain_errors : FnScope N__law_plain_errors [] (defScope s__law_plain_errors) := ⟨rfl, rfl, rfl, by decide +kernel, rfl, by decide +kernel, by decide +kernel⟩
theorem ok__law_plain_errors {f : Addr} {fd : FuncData} (F : Fun K "_law_plain_errors" "_law_plain_errors" s__law_plain_errors f fd) (hm : mg "_law_plain_errors" = some (.ref f)) (n_all : mg "all" = none) {C_BadChance : Addr} (X_BadChance : XCls K mg "BadChance" C_BadChance) {C_BadKind : Addr} (X_BadKind : XCls K mg "BadKind" C_BadKind) {C_BadMark : Addr} (X_BadMark : XCls K mg "BadMark" C_BadMark) {C_BadNumber : Addr} (X_BadNumber : XCls K mg "BadNumber" C_BadNumber) {C_BadSize : Addr} (X_BadSize : XCls K mg "BadSize" C_BadSize) {C_BadTarget : Addr} (X_BadTarget : XCls K mg "BadTarget" C_BadTarget) {C_LastBranch : Addr} (X_LastBranch : XCls K mg "LastBranch" C_LastBranch) {C_NoBranch : Addr} (X_NoBranch : XCls K mg "NoBranch" C_NoBranch) {C_NotHere : Addr} (X_NotHere : XCls K mg "NotHere" C_NotHere) {C_NotSo : Addr} (X_NotSo : XCls K mg "NotSo" C_NotSo) {C_NothingToRedo : Addr} (X_NothingToRedo : XCls K mg "NothingToRedo" C_NothingToRedo) {C_NothingToUndo : Addr} (X_NothingToUndo : XCls K mg "NothingToUndo" C_NothingToUndo) (DE__law_alone : DfE P w K mg FN base 2 "_law_alone" ["e", "at"] m__law_alone) : Df P w K mg base 3 "_law_plain_errors" [] m__law_plain_errors := by
  refine df_mk F sc__law_plain_errors hm (F.binds fun _ _ _ _ _ _ us hl => match us, hl with | [], _ => rfl) (fun ds d h => ?_) (by decide) fun cdv A outer s H E hr => ⟨_, pss_cons (ps_set (i := 0) sc__law_plain_errors.nd rfl (Or.inl rfl) (pe_lst (pa_nil)))
 (pss_cons (ps_set (i := 0) sc__law_plain_errors.nd rfl (Or.inl rfl) (pe_op op_addX (pv 0) (pe_lst (pa_cons (kDfE K DE__law_alone (hr.mono (by decide)) (by rfl) (pa_cons (kNew0 X_BadSize (by rfl)) (pa_cons (pe_int) (pa_nil)))) (pa_cons (kDfE K DE__law_alone (hr.mono (by decide)) (by rfl) (pa_cons (kNew0 X_BadMark (by rfl)) (pa_cons (pe_int) (pa_nil)))) (pa_cons (kDfE K DE__law_alone (hr.mono (by decide)) (by rfl) (pa_cons (kNew0 X_BadKind (by rfl)) (pa_cons (pe_int) (pa_nil)))) (pa_nil)))))))
 (pss_cons (ps_set (i := 0) sc__law_plain_errors.nd rfl (Or.inl rfl) (pe_op op_addX (pv 0) (pe_lst (pa_cons (kDfE K DE__law_alone (hr.mono (by decide)) (by rfl) (pa_cons (kNew0 X_BadNumber (by rfl)) (pa_cons (pe_int) (pa_nil)))) (pa_cons (kDfE K DE__law_alone (hr.mono (by decide)) (by rfl) (pa_cons (kNew0 X_BadChance (by rfl)) (pa_cons (pe_int) (pa_nil)))) (pa_cons (kDfE K DE__law_alone (hr.mono (by decide)) (by rfl) (pa_cons (kNew0 X_BadTarget (by rfl)) (pa_cons (pe_int) (pa_nil)))) (pa_nil)))))))
 (pss_cons (ps_set (i := 0) sc__law_plain_errors.nd rfl (Or.inl rfl) (pe_op op_addX (pv 0) (pe_lst (pa_cons (kDfE K DE__law_alone (hr.mono (by decide)) (by rfl) (pa_cons (kNew0 X_NotHere (by rfl)) (pa_cons (pe_int) (pa_nil)))) (pa_cons (kDfE K DE__law_alone (hr.mono (by decide)) (by rfl) (pa_cons (kNew0 X_NoBranch (by rfl)) (pa_cons (pe_int) (pa_nil)))) (pa_cons (kDfE K DE__law_alone (hr.mono (by decide)) (by rfl) (pa_cons (kNew0 X_NotSo (by rfl)) (pa_cons (pe_int) (pa_nil)))) (pa_nil)))))))
 (pss_cons (ps_set (i := 0) sc__law_plain_errors.nd rfl (Or.inl rfl) (pe_op op_addX (pv 0) (pe_lst (pa_cons (kDfE K DE__law_alone (hr.mono (by decide)) (by rfl) (pa_cons (kNew0 X_LastBranch (by rfl)) (pa_cons (pe_int) (pa_nil)))) (pa_cons (kDfE K DE__law_alone (hr.mono (by decide)) (by rfl) (pa_cons (kNew0 X_NothingToUndo (by rfl)) (pa_cons (pe_int) (pa_nil)))) (pa_cons (kDfE K DE__law_alone (hr.mono (by decide)) (by rfl) (pa_cons (kNew0 X_NothingToRedo (by rfl)) (pa_cons (pe_int) (pa_nil)))) (pa_nil)))))))
 (pss_one (ps_ret (pe_callB (kAll K) (by rfl) n_all (by decide +kernel) (pa_cons (pv 0) (pa_nil))))))))), fun ds d h => ?_⟩
  · match ds, h with
    | [], h => rfl
  · match ds, h with
    | [], h => exact ⟨Unit, fun _ => [], Unit, fun _ => [], _, ds_seq (ds_set (i := 0) (dv_new (dl_lst (da_nil)))) (fun v1 =>
 ds_seq (ds_set (i := 0) (dv_op od_add (dv_var 0) (dv_new (dl_lst (da_cons (dv_callE (de_new0 X_BadSize.g) (da_cons (dv_int 0) (da_nil))) (da_cons (dv_callE (de_new0 X_BadMark.g) (da_cons (dv_int 1) (da_nil))) (da_cons (dv_callE (de_new0 X_BadKind.g) (da_cons (dv_int 2) (da_nil))) (da_nil)))))))) (fun v2 =>
 ds_seq (ds_set (i := 0) (dv_op od_add (dv_var 0) (dv_new (dl_lst (da_cons (dv_callE (de_new0 X_BadNumber.g) (da_cons (dv_int 3) (da_nil))) (da_cons (dv_callE (de_new0 X_BadChance.g) (da_cons (dv_int 4) (da_nil))) (da_cons (dv_callE (de_new0 X_BadTarget.g) (da_cons (dv_int 5) (da_nil))) (da_nil)))))))) (fun v3 =>
 ds_seq (ds_set (i := 0) (dv_op od_add (dv_var 0) (dv_new (dl_lst (da_cons (dv_callE (de_new0 X_NotHere.g) (da_cons (dv_int 6) (da_nil))) (da_cons (dv_callE (de_new0 X_NoBranch.g) (da_cons (dv_int 7) (da_nil))) (da_cons (dv_callE (de_new0 X_NotSo.g) (da_cons (dv_int 8) (da_nil))) (da_nil)))))))) (fun v4 =>
 ds_seq (ds_set (i := 0) (dv_op od_add (dv_var 0) (dv_new (dl_lst (da_cons (dv_callE (de_new0 X_LastBranch.g) (da_cons (dv_int 9) (da_nil))) (da_cons (dv_callE (de_new0 X_NothingToUndo.g) (da_cons (dv_int 10) (da_nil))) (da_cons (dv_callE (de_new0 X_NothingToRedo.g) (da_cons (dv_int 11) (da_nil))) (da_nil)))))))) (fun v5 =>
 ds_ret (dv_cb cd_all (da_cons (dv_var 0) (da_nil)))))))), (by simp only [m__law_plain_errors] at h; exact h)⟩
end
end Lw

set_option Elab.async false
set_option linter.all false
set_option maxRecDepth 100000
set_option maxHeartbeats 4000000
namespace Lw
open PySem PySem.Spec PyProof.Rows L2 Dl
section
variable {FN : Str → List Str} {CV : Str → Value} {cl : List (Str × Addr)} {cv : List (Str × Value)}
variable {P : Program} {w : World} {K : PySem.W.Frag} {mg : Str → Option Value} {base : Heap}
theorem sc__law_alone : FnScope N__law_alone ["e", "at"] (defScope s__law_alone) := ⟨rfl, rfl, rfl, by decide +kernel, rfl, by decide +kernel, by decide +kernel⟩
theorem okE__law_alone {f : Addr} {fd : FuncData} (F : Fun K "_law_alone" "_law_alone" s__law_alone f fd) (hm : mg "_law_alone" = some (.ref f)) (n_ValueError : mg "ValueError" = none) (n_all : mg "all" = none) (n_isinstance : mg "isinstance" = none) (n_len : mg "len" = none) (n_range : mg "range" = none) {C_CrownError : Addr} (X_CrownError : XCls K mg "CrownError" C_CrownError) (w_CrownError : cv.lookup ("CrownError" : Str) = some (.ref C_CrownError)) (w_ValueError : cv.lookup ("ValueError" : Str) = some (.type "ValueError")) (TV : XTokV K mg cl cv xns xcs xtb) (DE__law_marks : DfE P w K mg FN base 1 "_law_marks" ["e"] m__law_marks) : DfE P w K mg FN base 2 "_law_alone" ["e", "at"] m__law_alone := by
  refine dfE_mk F sc__law_alone hm (F.binds fun _ _ _ _ _ _ us hl => match us, hl with | [_, _], _ => rfl) (fun y ds d h => ?_) (by decide) fun cdv A outer s H E hr => ⟨_, pss_cons (ps_if ((pw_or (pt_not (pt_val (pe_callB (kIsV K) (by rfl) n_isinstance (by decide +kernel) (pa_cons (pv 0) (pa_cons (pe_glob (v := .ref C_CrownError) (by rfl) X_CrownError.g rfl) pa_nil))))) (pw_or1 (pt_not (pt_val (pe_callB (kIsV K) (by rfl) n_isinstance (by decide +kernel) (pa_cons (pv 0) (pa_cons (pe_bltn (v := .ty "ValueError") (by rfl) n_ValueError (by decide +kernel) rfl) pa_nil))))))).pt) (pss_one (ps_ret (pe_bl))) (pss_nil))
 (pss_cons (ps_set (i := 2) sc__law_alone.nd rfl (Or.inr rfl) (kDfE K DE__law_marks (hr.mono (by decide)) (by rfl) (pa_cons (pv 0) (pa_nil))))
 (pss_one (ps_ret (pe_callB (kAll K) (by rfl) n_all (by decide +kernel) (pa_cons (pe_lc (own := [("k", 3)]) (g := gName 3) rfl sc__law_alone.nd (pi_range1 (by rfl) n_range (pa_cons (pe_callB (kLen K) (by rfl) n_len (by decide +kernel) (pa_cons (pv 2) (pa_nil))) (pa_nil))) (blkOk_by (N := N__law_alone) (sc := defScope s__law_alone) (own := [("k", 3)]) (by decide +kernel)) (fun _ _ _ _ _ => pg_name (i := 3) sc__law_alone.nd rfl (Or.inl rfl)) (fun _ _ _ _ _ => pts_nil) (fun _ _ _ _ _ => pe_cmpR (kEqX K rfl hr.units) (pe_ix (kIx K) (pv 2) (pv 3) (fun _ _ => rfl)) (pe_cmpR (kEqX K rfl hr.units) (pv 3) (pv 1) (nomark _)) (nomark _))) (pa_nil)))))), fun x0 ds d h => ?_⟩
  · match ds, h with
    | [a1], h => rfl
  · match ds, h with
    | [a1], h => exact ⟨Unit, fun _ => [], Unit, fun _ => [], _, ds_seq (ds_if (en := fun (_ : Unit) => [.xv mg FN x0, .sh a1, .un, .un]) (dt_or (dt_not (dt_b (dv_isV (C := "CrownError") (y := .ref C_CrownError) TV w_CrownError (fun u r => r) (de_var 0)))) (dt_not (dt_b (dv_isV (C := "ValueError") (y := .ty "ValueError") TV w_ValueError (fun u r => r) (de_var 0))))) (ds_ret (dv_bl false)) (ds_nil (en := (fun (_ : Unit) => [.xv mg FN x0, .sh a1, .un, .un])) (a := ()) (Le.cons (.refl _) (Le.cons (.refl _) (Le.cons (.refl _) (Le.cons (.refl _) (Le.nil))))))) (fun () =>
 ds_seq (ds_set (i := 2) (dv_callE (de_var 0) (da_nil))) (fun v2 =>
 ds_ret (dv_cb cd_all (da_cons (dv_new (dl_lcN (j := 3) (di_rng1 (da_cons (dv_cb cd_len (da_cons (dv_var 2) (da_nil))) (da_nil))) (fun v3 => dt_yes) (fun v3 => dv_op od_eqX (dv_op od_ix (dv_var 2) (dv_var 3)) (dv_op od_eqX (dv_var 3) (dv_var 1))))) (da_nil))))), h⟩
end
end Lw

set_option maxRecDepth 100000
set_option maxHeartbeats 4000000
set_option linter.all false
namespace Lw
open PySem PySem.Spec PyProof.Rows L2 Dl
def DrawsAre (n : Nat) (k : Nat) (a : List D × List D) : Prop := ∃ rs ds : List Int, a = (dInts rs, dInts ds) ∧ rs.length = n ∧ ds.length = k ∧ ∀ v ∈ ds, 0 ≤ v ∧ v < 1000
theorem asB_b {b : Bool} : asB (.bool b) = some b := rfl
theorem draws_turn {n k : Nat} (hk : k ≤ 100000) (hn : n ≤ 63) {a : List D × List D} (h : DrawsAre n k a) : ∃ b, b__law_draws_1 a (.int (0 + k)) = .nx b ∧ DrawsAre n (k + 1) b := by
  obtain ⟨rs, ds, rfl, h1, h2, h3⟩ := h
  have app : ∀ v : Int, 0 ≤ v → v < 1000 → addL (dInts ds) (.int v) = some (dInts (ds ++ [v])) ∧ ∀ w ∈ ds ++ [v], 0 ≤ w ∧ w < 1000 := fun v a b => by
    refine ⟨?_, fun w hw => ?_⟩
    · rw [addL_ok (by rw [List.length_map]; omega)]; exact congrArg some (dInts_app (b := [v]))
    · rcases List.mem_append.mp hw with z | z
      · exact h3 w z
      · simp at z; subst z; exact ⟨a, b⟩
  have lenR : (dInts rs).length = n := by rw [List.length_map, h1]
  unfold b__law_draws_1
  simp only [toO, Out.bind, consO, Option.bind_some, lenD, op2, gtD, intD0, asB, intTD, lenR]
  by_cases h0 : n = 0
  · subst h0
    have e := app 0 (by omega) (by omega)
    simp only [Int.natCast_zero, Int.lt_irrefl, decide_false, ifO, e.1]
    exact ⟨_, rfl, rs, ds ++ [0], rfl, h1, by simp [h2], e.2⟩
  · have hp : (0 : Int) < n := by omega
    have hat := Int.emod_nonneg (0 + (k : Int)) (show (n : Int) ≠ 0 by omega)
    have hat2 := Int.emod_lt_of_pos (0 + (k : Int)) hp
    generalize hw : (0 + (k : Int)) % (n : Int) = w at hat hat2
    have ix : ixD (.list (dInts rs)) (.int w) = some (.int (rs.getD w.toNat 0)) := atI_ints hat (by rw [h1]; exact hat2)
    generalize rs.getD w.toNat 0 = r at ix
    have pw : powD (.int 10) (.int 18) = some (.int 1000000000000000000) := rfl
    simp only [decide_eq_true hp, ifO, mod_ok hp, hw, atomO, atom, Option.bind_some, if_true, Out.bind, toO, ix, pw, geD, intD0, asB, intTD]
    by_cases hr : (1000000000000000000 : Int) ≤ r
    · have e := app (r % 1000) (Int.emod_nonneg _ (by omega)) (Int.emod_lt_of_pos _ (by omega))
      have m1 : modD (.int r) (.int 1000) = some (.int (r % 1000)) := mod_ok (by omega)
      have f1 : fdivD (.int r) (.int 1000) = some (.int (r / 1000)) := fdiv_ok (by omega)
      simp only [decide_eq_true hr, m1, f1, setIO, atomO, atom, Option.bind_some, if_true, toO, Out.bind, setL_ints (v := r / 1000) hat (show w < rs.length by rw [h1]; exact hat2), e.1]
      exact ⟨_, rfl, rs.set w.toNat (r / 1000), ds ++ [r % 1000], rfl, by rw [List.length_set, h1], by simp [h2], e.2⟩
    · have m1 : mulX (.int r) (.int 48271) = some (.int (r * 48271)) := mul_ok (by decide)
      have m2 : mulX (.int (0 + (k : Int))) (.int 69621) = some (.int ((0 + (k : Int)) * 69621)) := mul_ok (by decide)
      have m3 : ∀ i : Int, mulX (.int i) (.int 16807) = some (.int (i * 16807)) := fun i => mul_ok (by decide)
      have m4 : ∀ i : Int, modD (.int i) (.int 2147483647) = some (.int (i % 2147483647)) := fun i => mod_ok (by omega)
      have m5 : ∀ i : Int, modD (.int i) (.int 2147483629) = some (.int (i % 2147483629)) := fun i => mod_ok (by omega)
      have m6 : ∀ i : Int, fdivD (.int i) (.int 7) = some (.int (i / 7)) := fun i => fdiv_ok (by omega)
      have m7 : ∀ i : Int, modD (.int i) (.int 1000) = some (.int (i % 1000)) := fun i => mod_ok (by omega)
      simp only [decide_eq_false hr, m1, m2, m3, m4, m5, m6, m7, add_ok, atomO, atom, Option.bind_some, if_true, toO, Out.bind, intTD]
      generalize ((_ : Int) / 7) = z
      have e := app (z % 1000) (Int.emod_nonneg _ (by omega)) (Int.emod_lt_of_pos _ (by omega))
      simp only [e.1]
      exact ⟨_, rfl, rs, ds ++ [z % 1000], rfl, h1, by simp [h2], e.2⟩
theorem draws_ok (ns : List Int) (hn : ns.length ≤ 63) (c : Nat) (hc : c ≤ 100000) : ∃ ds : List Int, m__law_draws ns [.int c] = some (.list (dInts ds)) ∧ ds.length = c ∧ ∀ v ∈ ds, 0 ≤ v ∧ v < 1000 := by
  unfold m__law_draws
  simp only [Option.bind_some, consO, toO, Out.bind, lcZ_id (xs := ns.map PyData.int) (by rw [List.length_map]; omega), szL_nil, rng1D_is (n := c) (by omega), forR]
  obtain ⟨b, hb, ib⟩ := forO_inv (β := Unit) (body := b__law_draws_1) (I := DrawsAre ns.length) (xs := rngD 0 c) (k := 0) (a := (ns.map PyData.int, [])) ⟨ns, [], rfl, rfl, rfl, by simp⟩ fun i a x hx hi => by
    obtain ⟨hl, rfl⟩ := rngD_get hx
    rw [Nat.zero_add] at hi ⊢
    obtain ⟨b, hb, ib⟩ := draws_turn (by omega) hn hi
    exact ⟨b, .inl hb, ib⟩
  rw [rngD_len, Nat.zero_add] at ib
  obtain ⟨rs, ds, rfl, h1, h2, h3⟩ := ib
  rw [hb]
  exact ⟨ds, rfl, h2, h3⟩
end Lw
namespace Lw
open PySem PySem.Spec PyProof.Rows L2 Dl
/-- the draws, as naturals -/
theorem draws_nat (ns : List Int) (hn : ns.length ≤ 63) (c : Nat) (hc : c ≤ 100000) : ∃ ds : List Nat, m__law_draws ns [.int c] = some (.list (nL ds)) ∧ ds.length = c ∧ ∀ v ∈ ds, v < 1000 := by
  obtain ⟨ds, e, l, h⟩ := draws_ok ns hn c hc
  refine ⟨ds.map Int.toNat, ?_, by rw [List.length_map, l], fun v hv => ?_⟩
  · rw [e]
    refine congrArg (fun x => some (PyData.list x)) ?_
    show ds.map PyData.int = (ds.map Int.toNat).map nD
    rw [List.map_map]
    exact List.map_congr_left fun i hi => congrArg PyData.int (by have := h i hi; show i = ((i.toNat : Nat) : Int); omega)
  · obtain ⟨i, hi, rfl⟩ := List.mem_map.mp hv
    have := h i hi
    omega
end Lw

set_option Elab.async false
set_option linter.all false
set_option maxRecDepth 100000
set_option maxHeartbeats 1000000
namespace Lw
open PySem PySem.Spec PyProof.Rows L2 Dl
theorem st {α γ : Type} {o : Out α Unit} {a : α} {k : α → Out γ Unit} {d : Option D} (h : Out.bind o k = Out.bind (.nx a) k) (g : Out.run (k a) = d) : Out.run (Out.bind o k) = d := by
  rw [h]; exact g
theorem plain_ok : m__law_plain_errors [] = some (.bool true) := by kernel_rfl
theorem ne_self (a : Int) : neX (.int a) (.int a) = some (.bool false) := by
  have e : neX (.int a) (.int a) = some (.bool (!decide (a = a))) := rfl
  rw [e, decide_eq_true rfl]; rfl
theorem alone12 (fs : List D) : m__law_alone ("BadStrategy", fs) [.int 12] = some (.bool true) := by kernel_rfl
theorem alone13 (fs : List D) : m__law_alone ("BadText", fs) [.int 13] = some (.bool true) := by kernel_rfl
theorem alone14 (fs : List D) : m__law_alone ("UnknownName", fs) [.int 14] = some (.bool true) := by kernel_rfl
theorem alone15 (fs : List D) : m__law_alone ("TwoNames", fs) [.int 15] = some (.bool true) := by kernel_rfl
theorem alone16 (fs : List D) : m__law_alone ("BadEntry", fs) [.int 16] = some (.bool true) := by kernel_rfl
theorem law_true : ∀ ns : List Int, ns.length ≤ 63 → m_law ns [] = some (.bool true) := fun ns hn => by
  obtain ⟨ds, e1, hl, _⟩ := draws_ok ns hn 10 (by decide)
  match ds, hl with
  | [a0, a1, a2, a3, a4, a5, a6, a7, a8, a9], _ =>
  have L1 : Option.bind (consO (some (.int 10)) (some [])) (m__law_draws ns) = some (.list (dInts [a0, a1, a2, a3, a4, a5, a6, a7, a8, a9])) := e1
  unfold m_law
  dsimp only
  rw [L1, e_toO, e_bnx]
  refine st (a := [(("BadStrategy", [.int a0]) : Xd), ("BadText", [.int (a2 + 1), .int a1])]) rfl ?_
  refine st (a := [(("BadStrategy", [.int a0]) : Xd), ("BadText", [.int (a2 + 1), .int a1]), ("UnknownName", [.int (a4 + 1), .int a3]), ("TwoNames", [.int a5]), ("BadEntry", [.int a6])]) rfl ?_
  refine st (a := ()) (congrArg (fun z => Out.bind z _) ?_) ?_
  · show ifO (orT (Option.bind (op2 neX (some (.int a0)) (some (.int a0))) asB) (orT (Option.bind (op2 neX (some (.int a6)) (some (.int a6))) asB) (Option.bind (op2 neX (some (.int a5)) (some (.int a5))) asB))) _ _ = _
    rw [e_op2, e_op2, e_op2, ne_self, ne_self, ne_self]; rfl
  refine st (a := ()) (congrArg (fun z => Out.bind z _) ?_) ?_
  · show ifO (orT (Option.bind (op2 neX (some (.int a1)) (some (.int a1))) asB) (Option.bind (op2 neX (some (.int (a2 + 1))) (some (.int (a2 + 1)))) asB)) _ _ = _
    rw [e_op2, e_op2, ne_self, ne_self]; rfl
  refine st (a := ()) (congrArg (fun z => Out.bind z _) ?_) ?_
  · show ifO (orT (Option.bind (op2 neX (some (.int a3)) (some (.int a3))) asB) (Option.bind (op2 neX (some (.int (a4 + 1))) (some (.int (a4 + 1)))) asB)) _ _ = _
    rw [e_op2, e_op2, ne_self, ne_self]; rfl
  refine st (a := ()) (congrArg (fun z => Out.bind z _) ?_) ?_
  · kernel_rfl
  show Out.run (toR (m__law_plain_errors [])) = _
  rw [plain_ok]; rfl
end Lw

set_option maxRecDepth 100000
set_option maxHeartbeats 4000000
namespace Lw
open PySem PySem.Spec PyProof.Rows L2 Dl
theorem all_mk {l : PySem.W.OpenLaw} {w : World} {K : PySem.W.Frag} {h : Heap} {mg : Str → Option Value} {fa : Addr} (X : K.In h) (G : h.Ns mainGlobals mg) (hfa : mg "law" = some (.ref fa))
    {f__law_draws : Addr} {od__law_draws an__law_draws : Option Addr} {sl__law_draws : Array (Option Value)} {oc__law_draws kV__law_draws dc__law_draws pm__law_draws cd__law_draws ct__law_draws : Value}
    {f__law_marks : Addr} {od__law_marks an__law_marks : Option Addr} {sl__law_marks : Array (Option Value)} {oc__law_marks kV__law_marks dc__law_marks pm__law_marks cd__law_marks ct__law_marks : Value}
    {f__law_alone : Addr} {od__law_alone an__law_alone : Option Addr} {sl__law_alone : Array (Option Value)} {oc__law_alone kV__law_alone dc__law_alone pm__law_alone cd__law_alone ct__law_alone : Value}
    {f__law_plain_errors : Addr} {od__law_plain_errors an__law_plain_errors : Option Addr} {sl__law_plain_errors : Array (Option Value)} {oc__law_plain_errors kV__law_plain_errors dc__law_plain_errors pm__law_plain_errors cd__law_plain_errors ct__law_plain_errors : Value}
    {f_law : Addr} {od_law an_law : Option Addr} {sl_law : Array (Option Value)} {oc_law kV_law dc_law pm_law cd_law ct_law : Value}
    {C_BadEntry fI_BadEntry : Addr} {od_IBadEntry an_IBadEntry : Option Addr} {sl_IBadEntry : Array (Option Value)} {oc_IBadEntry kV_IBadEntry dc_IBadEntry pm_IBadEntry cd_IBadEntry ct_IBadEntry : Value} {C_BadStrategy fI_BadStrategy : Addr} {od_IBadStrategy an_IBadStrategy : Option Addr} {sl_IBadStrategy : Array (Option Value)} {oc_IBadStrategy kV_IBadStrategy dc_IBadStrategy pm_IBadStrategy cd_IBadStrategy ct_IBadStrategy : Value} {C_BadText fI_BadText : Addr} {od_IBadText an_IBadText : Option Addr} {sl_IBadText : Array (Option Value)} {oc_IBadText kV_IBadText dc_IBadText pm_IBadText cd_IBadText ct_IBadText : Value} {C_TwoNames fI_TwoNames : Addr} {od_ITwoNames an_ITwoNames : Option Addr} {sl_ITwoNames : Array (Option Value)} {oc_ITwoNames kV_ITwoNames dc_ITwoNames pm_ITwoNames cd_ITwoNames ct_ITwoNames : Value} {C_UnknownName fI_UnknownName : Addr} {od_IUnknownName an_IUnknownName : Option Addr} {sl_IUnknownName : Array (Option Value)} {oc_IUnknownName kV_IUnknownName dc_IUnknownName pm_IUnknownName cd_IUnknownName ct_IUnknownName : Value} {C_BadChance : Addr} {C_BadKind : Addr} {C_BadMark : Addr} {C_BadNumber : Addr} {C_BadSize : Addr} {C_BadTarget : Addr} {C_CrownError : Addr} {C_LastBranch : Addr} {C_NoBranch : Addr} {C_NotHere : Addr} {C_NotSo : Addr} {C_NothingToRedo : Addr} {C_NothingToUndo : Addr}
    (a__law_draws : PySem.W.nsIn K mainGlobals "_law_draws" = some (some (.ref f__law_draws))) (l__law_draws : K.lookup f__law_draws = some ⟨oc__law_draws, od__law_draws, .func (PySem.W.fnOf "_law_draws" "_law_draws" (defArgs s__law_draws) (defBody s__law_draws) (defScope s__law_draws) .none kV__law_draws dc__law_draws pm__law_draws an__law_draws cd__law_draws ct__law_draws), sl__law_draws⟩) (c__law_draws : PySem.W.codeIn K cd__law_draws "_law_draws" = true) (e__law_draws : PySem.W.keepIn K (.ref f__law_draws) = true)
    (a__law_marks : PySem.W.nsIn K mainGlobals "_law_marks" = some (some (.ref f__law_marks))) (l__law_marks : K.lookup f__law_marks = some ⟨oc__law_marks, od__law_marks, .func (PySem.W.fnOf "_law_marks" "_law_marks" (defArgs s__law_marks) (defBody s__law_marks) (defScope s__law_marks) .none kV__law_marks dc__law_marks pm__law_marks an__law_marks cd__law_marks ct__law_marks), sl__law_marks⟩) (c__law_marks : PySem.W.codeIn K cd__law_marks "_law_marks" = true) (e__law_marks : PySem.W.keepIn K (.ref f__law_marks) = true)
    (a__law_alone : PySem.W.nsIn K mainGlobals "_law_alone" = some (some (.ref f__law_alone))) (l__law_alone : K.lookup f__law_alone = some ⟨oc__law_alone, od__law_alone, .func (PySem.W.fnOf "_law_alone" "_law_alone" (defArgs s__law_alone) (defBody s__law_alone) (defScope s__law_alone) .none kV__law_alone dc__law_alone pm__law_alone an__law_alone cd__law_alone ct__law_alone), sl__law_alone⟩) (c__law_alone : PySem.W.codeIn K cd__law_alone "_law_alone" = true) (e__law_alone : PySem.W.keepIn K (.ref f__law_alone) = true)
    (a__law_plain_errors : PySem.W.nsIn K mainGlobals "_law_plain_errors" = some (some (.ref f__law_plain_errors))) (l__law_plain_errors : K.lookup f__law_plain_errors = some ⟨oc__law_plain_errors, od__law_plain_errors, .func (PySem.W.fnOf "_law_plain_errors" "_law_plain_errors" (defArgs s__law_plain_errors) (defBody s__law_plain_errors) (defScope s__law_plain_errors) .none kV__law_plain_errors dc__law_plain_errors pm__law_plain_errors an__law_plain_errors cd__law_plain_errors ct__law_plain_errors), sl__law_plain_errors⟩) (c__law_plain_errors : PySem.W.codeIn K cd__law_plain_errors "_law_plain_errors" = true) (e__law_plain_errors : PySem.W.keepIn K (.ref f__law_plain_errors) = true)
    (a_law : PySem.W.nsIn K mainGlobals "law" = some (some (.ref f_law))) (l_law : K.lookup f_law = some ⟨oc_law, od_law, .func (PySem.W.fnOf "law" "law" (defArgs s_law) (defBody s_law) (defScope s_law) .none kV_law dc_law pm_law an_law cd_law ct_law), sl_law⟩) (c_law : PySem.W.codeIn K cd_law "law" = true) (e_law : PySem.W.keepIn K (.ref f_law) = true)
    (z_ValueError : PySem.W.nsIn K mainGlobals "ValueError" = some none) (z_all : PySem.W.nsIn K mainGlobals "all" = some none) (z_int : PySem.W.nsIn K mainGlobals "int" = some none) (z_isinstance : PySem.W.nsIn K mainGlobals "isinstance" = some none) (z_len : PySem.W.nsIn K mainGlobals "len" = some none) (z_range : PySem.W.nsIn K mainGlobals "range" = some none) (xa_BadEntry : PySem.W.nsIn K mainGlobals "BadEntry" = some (some (.ref C_BadEntry))) (xo2_BadEntry : oexIn K C_BadEntry = true) (xb_BadEntry : xfB K C_BadEntry = true) (xs_BadEntry : PySem.W.subIn K (.ref C_BadEntry) (.type "BaseException") = some true) (xt_BadEntry : PySem.W.typeIn K (.ref C_BadEntry) = some (.type "type")) (xf0_BadEntry : PySem.W.findIn K (.ref C_BadEntry) "place" = some none) (ia_BadEntry : PySem.W.findIn K (.ref C_BadEntry) "__init__" = some (some (.ref fI_BadEntry))) (it_BadEntry : PySem.W.typeIn K (.ref fI_BadEntry) = some (.type "function")) (il_BadEntry : K.lookup fI_BadEntry = some ⟨oc_IBadEntry, od_IBadEntry, .func (PySem.W.fnOf "__init__" "BadEntry.__init__" (defArgs sI_BadEntry) (defBody sI_BadEntry) (defScope sI_BadEntry) .none kV_IBadEntry dc_IBadEntry pm_IBadEntry an_IBadEntry cd_IBadEntry ct_IBadEntry), sl_IBadEntry⟩) (ic_BadEntry : PySem.W.codeIn K cd_IBadEntry "BadEntry.__init__" = true) (ie_BadEntry : PySem.W.keepIn K (.ref fI_BadEntry) = true) (xa_BadStrategy : PySem.W.nsIn K mainGlobals "BadStrategy" = some (some (.ref C_BadStrategy))) (xo2_BadStrategy : oexIn K C_BadStrategy = true) (xb_BadStrategy : xfB K C_BadStrategy = true) (xs_BadStrategy : PySem.W.subIn K (.ref C_BadStrategy) (.type "BaseException") = some true) (xt_BadStrategy : PySem.W.typeIn K (.ref C_BadStrategy) = some (.type "type")) (xf0_BadStrategy : PySem.W.findIn K (.ref C_BadStrategy) "place" = some none) (ia_BadStrategy : PySem.W.findIn K (.ref C_BadStrategy) "__init__" = some (some (.ref fI_BadStrategy))) (it_BadStrategy : PySem.W.typeIn K (.ref fI_BadStrategy) = some (.type "function")) (il_BadStrategy : K.lookup fI_BadStrategy = some ⟨oc_IBadStrategy, od_IBadStrategy, .func (PySem.W.fnOf "__init__" "BadStrategy.__init__" (defArgs sI_BadStrategy) (defBody sI_BadStrategy) (defScope sI_BadStrategy) .none kV_IBadStrategy dc_IBadStrategy pm_IBadStrategy an_IBadStrategy cd_IBadStrategy ct_IBadStrategy), sl_IBadStrategy⟩) (ic_BadStrategy : PySem.W.codeIn K cd_IBadStrategy "BadStrategy.__init__" = true) (ie_BadStrategy : PySem.W.keepIn K (.ref fI_BadStrategy) = true) (xa_BadText : PySem.W.nsIn K mainGlobals "BadText" = some (some (.ref C_BadText))) (xo2_BadText : oexIn K C_BadText = true) (xb_BadText : xfB K C_BadText = true) (xs_BadText : PySem.W.subIn K (.ref C_BadText) (.type "BaseException") = some true) (xt_BadText : PySem.W.typeIn K (.ref C_BadText) = some (.type "type")) (xf0_BadText : PySem.W.findIn K (.ref C_BadText) "line" = some none) (xf1_BadText : PySem.W.findIn K (.ref C_BadText) "column" = some none) (ia_BadText : PySem.W.findIn K (.ref C_BadText) "__init__" = some (some (.ref fI_BadText))) (it_BadText : PySem.W.typeIn K (.ref fI_BadText) = some (.type "function")) (il_BadText : K.lookup fI_BadText = some ⟨oc_IBadText, od_IBadText, .func (PySem.W.fnOf "__init__" "BadText.__init__" (defArgs sI_BadText) (defBody sI_BadText) (defScope sI_BadText) .none kV_IBadText dc_IBadText pm_IBadText an_IBadText cd_IBadText ct_IBadText), sl_IBadText⟩) (ic_BadText : PySem.W.codeIn K cd_IBadText "BadText.__init__" = true) (ie_BadText : PySem.W.keepIn K (.ref fI_BadText) = true) (xa_TwoNames : PySem.W.nsIn K mainGlobals "TwoNames" = some (some (.ref C_TwoNames))) (xo2_TwoNames : oexIn K C_TwoNames = true) (xb_TwoNames : xfB K C_TwoNames = true) (xs_TwoNames : PySem.W.subIn K (.ref C_TwoNames) (.type "BaseException") = some true) (xt_TwoNames : PySem.W.typeIn K (.ref C_TwoNames) = some (.type "type")) (xf0_TwoNames : PySem.W.findIn K (.ref C_TwoNames) "line" = some none) (ia_TwoNames : PySem.W.findIn K (.ref C_TwoNames) "__init__" = some (some (.ref fI_TwoNames))) (it_TwoNames : PySem.W.typeIn K (.ref fI_TwoNames) = some (.type "function")) (il_TwoNames : K.lookup fI_TwoNames = some ⟨oc_ITwoNames, od_ITwoNames, .func (PySem.W.fnOf "__init__" "TwoNames.__init__" (defArgs sI_TwoNames) (defBody sI_TwoNames) (defScope sI_TwoNames) .none kV_ITwoNames dc_ITwoNames pm_ITwoNames an_ITwoNames cd_ITwoNames ct_ITwoNames), sl_ITwoNames⟩) (ic_TwoNames : PySem.W.codeIn K cd_ITwoNames "TwoNames.__init__" = true) (ie_TwoNames : PySem.W.keepIn K (.ref fI_TwoNames) = true) (xa_UnknownName : PySem.W.nsIn K mainGlobals "UnknownName" = some (some (.ref C_UnknownName))) (xo2_UnknownName : oexIn K C_UnknownName = true) (xb_UnknownName : xfB K C_UnknownName = true) (xs_UnknownName : PySem.W.subIn K (.ref C_UnknownName) (.type "BaseException") = some true) (xt_UnknownName : PySem.W.typeIn K (.ref C_UnknownName) = some (.type "type")) (xf0_UnknownName : PySem.W.findIn K (.ref C_UnknownName) "line" = some none) (xf1_UnknownName : PySem.W.findIn K (.ref C_UnknownName) "column" = some none) (ia_UnknownName : PySem.W.findIn K (.ref C_UnknownName) "__init__" = some (some (.ref fI_UnknownName))) (it_UnknownName : PySem.W.typeIn K (.ref fI_UnknownName) = some (.type "function")) (il_UnknownName : K.lookup fI_UnknownName = some ⟨oc_IUnknownName, od_IUnknownName, .func (PySem.W.fnOf "__init__" "UnknownName.__init__" (defArgs sI_UnknownName) (defBody sI_UnknownName) (defScope sI_UnknownName) .none kV_IUnknownName dc_IUnknownName pm_IUnknownName an_IUnknownName cd_IUnknownName ct_IUnknownName), sl_IUnknownName⟩) (ic_UnknownName : PySem.W.codeIn K cd_IUnknownName "UnknownName.__init__" = true) (ie_UnknownName : PySem.W.keepIn K (.ref fI_UnknownName) = true) (xa_BadChance : PySem.W.nsIn K mainGlobals "BadChance" = some (some (.ref C_BadChance))) (xq_BadChance : PySem.W.excIn K C_BadChance [.type "ValueError", .type "Exception", .type "BaseException", .type "object"] "ValueError.__new__" = true) (xk_BadChance : PySem.W.keepIn K (.ref C_BadChance) = true) (xs_BadChance : PySem.W.subIn K (.ref C_BadChance) (.type "BaseException") = some true) (xt_BadChance : PySem.W.typeIn K (.ref C_BadChance) = some (.type "type")) (xa_BadKind : PySem.W.nsIn K mainGlobals "BadKind" = some (some (.ref C_BadKind))) (xq_BadKind : PySem.W.excIn K C_BadKind [.type "ValueError", .type "Exception", .type "BaseException", .type "object"] "ValueError.__new__" = true) (xk_BadKind : PySem.W.keepIn K (.ref C_BadKind) = true) (xs_BadKind : PySem.W.subIn K (.ref C_BadKind) (.type "BaseException") = some true) (xt_BadKind : PySem.W.typeIn K (.ref C_BadKind) = some (.type "type")) (xa_BadMark : PySem.W.nsIn K mainGlobals "BadMark" = some (some (.ref C_BadMark))) (xq_BadMark : PySem.W.excIn K C_BadMark [.type "ValueError", .type "Exception", .type "BaseException", .type "object"] "ValueError.__new__" = true) (xk_BadMark : PySem.W.keepIn K (.ref C_BadMark) = true) (xs_BadMark : PySem.W.subIn K (.ref C_BadMark) (.type "BaseException") = some true) (xt_BadMark : PySem.W.typeIn K (.ref C_BadMark) = some (.type "type")) (xa_BadNumber : PySem.W.nsIn K mainGlobals "BadNumber" = some (some (.ref C_BadNumber))) (xq_BadNumber : PySem.W.excIn K C_BadNumber [.type "ValueError", .type "Exception", .type "BaseException", .type "object"] "ValueError.__new__" = true) (xk_BadNumber : PySem.W.keepIn K (.ref C_BadNumber) = true) (xs_BadNumber : PySem.W.subIn K (.ref C_BadNumber) (.type "BaseException") = some true) (xt_BadNumber : PySem.W.typeIn K (.ref C_BadNumber) = some (.type "type")) (xa_BadSize : PySem.W.nsIn K mainGlobals "BadSize" = some (some (.ref C_BadSize))) (xq_BadSize : PySem.W.excIn K C_BadSize [.type "ValueError", .type "Exception", .type "BaseException", .type "object"] "ValueError.__new__" = true) (xk_BadSize : PySem.W.keepIn K (.ref C_BadSize) = true) (xs_BadSize : PySem.W.subIn K (.ref C_BadSize) (.type "BaseException") = some true) (xt_BadSize : PySem.W.typeIn K (.ref C_BadSize) = some (.type "type")) (xa_BadTarget : PySem.W.nsIn K mainGlobals "BadTarget" = some (some (.ref C_BadTarget))) (xq_BadTarget : PySem.W.excIn K C_BadTarget [.type "ValueError", .type "Exception", .type "BaseException", .type "object"] "ValueError.__new__" = true) (xk_BadTarget : PySem.W.keepIn K (.ref C_BadTarget) = true) (xs_BadTarget : PySem.W.subIn K (.ref C_BadTarget) (.type "BaseException") = some true) (xt_BadTarget : PySem.W.typeIn K (.ref C_BadTarget) = some (.type "type")) (xa_CrownError : PySem.W.nsIn K mainGlobals "CrownError" = some (some (.ref C_CrownError))) (xq_CrownError : PySem.W.excIn K C_CrownError [.type "ValueError", .type "Exception", .type "BaseException", .type "object"] "ValueError.__new__" = true) (xk_CrownError : PySem.W.keepIn K (.ref C_CrownError) = true) (xs_CrownError : PySem.W.subIn K (.ref C_CrownError) (.type "BaseException") = some true) (xt_CrownError : PySem.W.typeIn K (.ref C_CrownError) = some (.type "type")) (xa_LastBranch : PySem.W.nsIn K mainGlobals "LastBranch" = some (some (.ref C_LastBranch))) (xq_LastBranch : PySem.W.excIn K C_LastBranch [.type "ValueError", .type "Exception", .type "BaseException", .type "object"] "ValueError.__new__" = true) (xk_LastBranch : PySem.W.keepIn K (.ref C_LastBranch) = true) (xs_LastBranch : PySem.W.subIn K (.ref C_LastBranch) (.type "BaseException") = some true) (xt_LastBranch : PySem.W.typeIn K (.ref C_LastBranch) = some (.type "type")) (xa_NoBranch : PySem.W.nsIn K mainGlobals "NoBranch" = some (some (.ref C_NoBranch))) (xq_NoBranch : PySem.W.excIn K C_NoBranch [.type "ValueError", .type "Exception", .type "BaseException", .type "object"] "ValueError.__new__" = true) (xk_NoBranch : PySem.W.keepIn K (.ref C_NoBranch) = true) (xs_NoBranch : PySem.W.subIn K (.ref C_NoBranch) (.type "BaseException") = some true) (xt_NoBranch : PySem.W.typeIn K (.ref C_NoBranch) = some (.type "type")) (xa_NotHere : PySem.W.nsIn K mainGlobals "NotHere" = some (some (.ref C_NotHere))) (xq_NotHere : PySem.W.excIn K C_NotHere [.type "ValueError", .type "Exception", .type "BaseException", .type "object"] "ValueError.__new__" = true) (xk_NotHere : PySem.W.keepIn K (.ref C_NotHere) = true) (xs_NotHere : PySem.W.subIn K (.ref C_NotHere) (.type "BaseException") = some true) (xt_NotHere : PySem.W.typeIn K (.ref C_NotHere) = some (.type "type")) (xa_NotSo : PySem.W.nsIn K mainGlobals "NotSo" = some (some (.ref C_NotSo))) (xq_NotSo : PySem.W.excIn K C_NotSo [.type "ValueError", .type "Exception", .type "BaseException", .type "object"] "ValueError.__new__" = true) (xk_NotSo : PySem.W.keepIn K (.ref C_NotSo) = true) (xs_NotSo : PySem.W.subIn K (.ref C_NotSo) (.type "BaseException") = some true) (xt_NotSo : PySem.W.typeIn K (.ref C_NotSo) = some (.type "type")) (xa_NothingToRedo : PySem.W.nsIn K mainGlobals "NothingToRedo" = some (some (.ref C_NothingToRedo))) (xq_NothingToRedo : PySem.W.excIn K C_NothingToRedo [.type "ValueError", .type "Exception", .type "BaseException", .type "object"] "ValueError.__new__" = true) (xk_NothingToRedo : PySem.W.keepIn K (.ref C_NothingToRedo) = true) (xs_NothingToRedo : PySem.W.subIn K (.ref C_NothingToRedo) (.type "BaseException") = some true) (xt_NothingToRedo : PySem.W.typeIn K (.ref C_NothingToRedo) = some (.type "type")) (xa_NothingToUndo : PySem.W.nsIn K mainGlobals "NothingToUndo" = some (some (.ref C_NothingToUndo))) (xq_NothingToUndo : PySem.W.excIn K C_NothingToUndo [.type "ValueError", .type "Exception", .type "BaseException", .type "object"] "ValueError.__new__" = true) (xk_NothingToUndo : PySem.W.keepIn K (.ref C_NothingToUndo) = true) (xs_NothingToUndo : PySem.W.subIn K (.ref C_NothingToUndo) (.type "BaseException") = some true) (xt_NothingToUndo : PySem.W.typeIn K (.ref C_NothingToUndo) = some (.type "type")) (yn : PySem.W.specialIn K (.builtin "object.__class__") "__get__" = some (some (.builtin "getset_descriptor.__get__"))) (yt : PySem.W.takesIn K (.builtin "object.__class__") = some true) (xg_BadChance : PySem.W.findIn K (.ref C_BadChance) "__getattribute__" = some (some (.builtin "BaseException.__getattribute__"))) (xo_BadChance : PySem.W.findIn K (.ref C_BadChance) "__getattr__" = some none) (xd_BadChance : PySem.W.hasDictIn K C_BadChance = true) (xl_BadChance : PySem.W.findIn K (.ref C_BadChance) "__class__" = some (some (.builtin "object.__class__"))) (xm_BadChance : PySem.W.mroIn K C_BadChance (.type "object") = some true) (xg_BadEntry : PySem.W.findIn K (.ref C_BadEntry) "__getattribute__" = some (some (.builtin "BaseException.__getattribute__"))) (xo_BadEntry : PySem.W.findIn K (.ref C_BadEntry) "__getattr__" = some none) (xd_BadEntry : PySem.W.hasDictIn K C_BadEntry = true) (xl_BadEntry : PySem.W.findIn K (.ref C_BadEntry) "__class__" = some (some (.builtin "object.__class__"))) (xm_BadEntry : PySem.W.mroIn K C_BadEntry (.type "object") = some true) (xg_BadKind : PySem.W.findIn K (.ref C_BadKind) "__getattribute__" = some (some (.builtin "BaseException.__getattribute__"))) (xo_BadKind : PySem.W.findIn K (.ref C_BadKind) "__getattr__" = some none) (xd_BadKind : PySem.W.hasDictIn K C_BadKind = true) (xl_BadKind : PySem.W.findIn K (.ref C_BadKind) "__class__" = some (some (.builtin "object.__class__"))) (xm_BadKind : PySem.W.mroIn K C_BadKind (.type "object") = some true) (xg_BadMark : PySem.W.findIn K (.ref C_BadMark) "__getattribute__" = some (some (.builtin "BaseException.__getattribute__"))) (xo_BadMark : PySem.W.findIn K (.ref C_BadMark) "__getattr__" = some none) (xd_BadMark : PySem.W.hasDictIn K C_BadMark = true) (xl_BadMark : PySem.W.findIn K (.ref C_BadMark) "__class__" = some (some (.builtin "object.__class__"))) (xm_BadMark : PySem.W.mroIn K C_BadMark (.type "object") = some true) (xg_BadNumber : PySem.W.findIn K (.ref C_BadNumber) "__getattribute__" = some (some (.builtin "BaseException.__getattribute__"))) (xo_BadNumber : PySem.W.findIn K (.ref C_BadNumber) "__getattr__" = some none) (xd_BadNumber : PySem.W.hasDictIn K C_BadNumber = true) (xl_BadNumber : PySem.W.findIn K (.ref C_BadNumber) "__class__" = some (some (.builtin "object.__class__"))) (xm_BadNumber : PySem.W.mroIn K C_BadNumber (.type "object") = some true) (xg_BadSize : PySem.W.findIn K (.ref C_BadSize) "__getattribute__" = some (some (.builtin "BaseException.__getattribute__"))) (xo_BadSize : PySem.W.findIn K (.ref C_BadSize) "__getattr__" = some none) (xd_BadSize : PySem.W.hasDictIn K C_BadSize = true) (xl_BadSize : PySem.W.findIn K (.ref C_BadSize) "__class__" = some (some (.builtin "object.__class__"))) (xm_BadSize : PySem.W.mroIn K C_BadSize (.type "object") = some true) (xg_BadStrategy : PySem.W.findIn K (.ref C_BadStrategy) "__getattribute__" = some (some (.builtin "BaseException.__getattribute__"))) (xo_BadStrategy : PySem.W.findIn K (.ref C_BadStrategy) "__getattr__" = some none) (xd_BadStrategy : PySem.W.hasDictIn K C_BadStrategy = true) (xl_BadStrategy : PySem.W.findIn K (.ref C_BadStrategy) "__class__" = some (some (.builtin "object.__class__"))) (xm_BadStrategy : PySem.W.mroIn K C_BadStrategy (.type "object") = some true) (xg_BadTarget : PySem.W.findIn K (.ref C_BadTarget) "__getattribute__" = some (some (.builtin "BaseException.__getattribute__"))) (xo_BadTarget : PySem.W.findIn K (.ref C_BadTarget) "__getattr__" = some none) (xd_BadTarget : PySem.W.hasDictIn K C_BadTarget = true) (xl_BadTarget : PySem.W.findIn K (.ref C_BadTarget) "__class__" = some (some (.builtin "object.__class__"))) (xm_BadTarget : PySem.W.mroIn K C_BadTarget (.type "object") = some true) (xg_BadText : PySem.W.findIn K (.ref C_BadText) "__getattribute__" = some (some (.builtin "BaseException.__getattribute__"))) (xo_BadText : PySem.W.findIn K (.ref C_BadText) "__getattr__" = some none) (xd_BadText : PySem.W.hasDictIn K C_BadText = true) (xl_BadText : PySem.W.findIn K (.ref C_BadText) "__class__" = some (some (.builtin "object.__class__"))) (xm_BadText : PySem.W.mroIn K C_BadText (.type "object") = some true) (xg_LastBranch : PySem.W.findIn K (.ref C_LastBranch) "__getattribute__" = some (some (.builtin "BaseException.__getattribute__"))) (xo_LastBranch : PySem.W.findIn K (.ref C_LastBranch) "__getattr__" = some none) (xd_LastBranch : PySem.W.hasDictIn K C_LastBranch = true) (xl_LastBranch : PySem.W.findIn K (.ref C_LastBranch) "__class__" = some (some (.builtin "object.__class__"))) (xm_LastBranch : PySem.W.mroIn K C_LastBranch (.type "object") = some true) (xg_NoBranch : PySem.W.findIn K (.ref C_NoBranch) "__getattribute__" = some (some (.builtin "BaseException.__getattribute__"))) (xo_NoBranch : PySem.W.findIn K (.ref C_NoBranch) "__getattr__" = some none) (xd_NoBranch : PySem.W.hasDictIn K C_NoBranch = true) (xl_NoBranch : PySem.W.findIn K (.ref C_NoBranch) "__class__" = some (some (.builtin "object.__class__"))) (xm_NoBranch : PySem.W.mroIn K C_NoBranch (.type "object") = some true) (xg_NotHere : PySem.W.findIn K (.ref C_NotHere) "__getattribute__" = some (some (.builtin "BaseException.__getattribute__"))) (xo_NotHere : PySem.W.findIn K (.ref C_NotHere) "__getattr__" = some none) (xd_NotHere : PySem.W.hasDictIn K C_NotHere = true) (xl_NotHere : PySem.W.findIn K (.ref C_NotHere) "__class__" = some (some (.builtin "object.__class__"))) (xm_NotHere : PySem.W.mroIn K C_NotHere (.type "object") = some true) (xg_NotSo : PySem.W.findIn K (.ref C_NotSo) "__getattribute__" = some (some (.builtin "BaseException.__getattribute__"))) (xo_NotSo : PySem.W.findIn K (.ref C_NotSo) "__getattr__" = some none) (xd_NotSo : PySem.W.hasDictIn K C_NotSo = true) (xl_NotSo : PySem.W.findIn K (.ref C_NotSo) "__class__" = some (some (.builtin "object.__class__"))) (xm_NotSo : PySem.W.mroIn K C_NotSo (.type "object") = some true) (xg_NothingToRedo : PySem.W.findIn K (.ref C_NothingToRedo) "__getattribute__" = some (some (.builtin "BaseException.__getattribute__"))) (xo_NothingToRedo : PySem.W.findIn K (.ref C_NothingToRedo) "__getattr__" = some none) (xd_NothingToRedo : PySem.W.hasDictIn K C_NothingToRedo = true) (xl_NothingToRedo : PySem.W.findIn K (.ref C_NothingToRedo) "__class__" = some (some (.builtin "object.__class__"))) (xm_NothingToRedo : PySem.W.mroIn K C_NothingToRedo (.type "object") = some true) (xg_NothingToUndo : PySem.W.findIn K (.ref C_NothingToUndo) "__getattribute__" = some (some (.builtin "BaseException.__getattribute__"))) (xo_NothingToUndo : PySem.W.findIn K (.ref C_NothingToUndo) "__getattr__" = some none) (xd_NothingToUndo : PySem.W.hasDictIn K C_NothingToUndo = true) (xl_NothingToUndo : PySem.W.findIn K (.ref C_NothingToUndo) "__class__" = some (some (.builtin "object.__class__"))) (xm_NothingToUndo : PySem.W.mroIn K C_NothingToUndo (.type "object") = some true) (xg_TwoNames : PySem.W.findIn K (.ref C_TwoNames) "__getattribute__" = some (some (.builtin "BaseException.__getattribute__"))) (xo_TwoNames : PySem.W.findIn K (.ref C_TwoNames) "__getattr__" = some none) (xd_TwoNames : PySem.W.hasDictIn K C_TwoNames = true) (xl_TwoNames : PySem.W.findIn K (.ref C_TwoNames) "__class__" = some (some (.builtin "object.__class__"))) (xm_TwoNames : PySem.W.mroIn K C_TwoNames (.type "object") = some true) (xg_UnknownName : PySem.W.findIn K (.ref C_UnknownName) "__getattribute__" = some (some (.builtin "BaseException.__getattribute__"))) (xo_UnknownName : PySem.W.findIn K (.ref C_UnknownName) "__getattr__" = some none) (xd_UnknownName : PySem.W.hasDictIn K C_UnknownName = true) (xl_UnknownName : PySem.W.findIn K (.ref C_UnknownName) "__class__" = some (some (.builtin "object.__class__"))) (xm_UnknownName : PySem.W.mroIn K C_UnknownName (.type "object") = some true) (kt_all : kitAll K [("BadChance", .ref C_BadChance), ("BadEntry", .ref C_BadEntry), ("BadKind", .ref C_BadKind), ("BadMark", .ref C_BadMark), ("BadNumber", .ref C_BadNumber), ("BadSize", .ref C_BadSize), ("BadStrategy", .ref C_BadStrategy), ("BadTarget", .ref C_BadTarget), ("BadText", .ref C_BadText), ("CrownError", .ref C_CrownError), ("LastBranch", .ref C_LastBranch), ("NoBranch", .ref C_NoBranch), ("NotHere", .ref C_NotHere), ("NotSo", .ref C_NotSo), ("NothingToRedo", .ref C_NothingToRedo), ("NothingToUndo", .ref C_NothingToUndo), ("TwoNames", .ref C_TwoNames), ("UnknownName", .ref C_UnknownName), ("ValueError", .type "ValueError")] [("BadChance", C_BadChance), ("BadEntry", C_BadEntry), ("BadKind", C_BadKind), ("BadMark", C_BadMark), ("BadNumber", C_BadNumber), ("BadSize", C_BadSize), ("BadStrategy", C_BadStrategy), ("BadTarget", C_BadTarget), ("BadText", C_BadText), ("LastBranch", C_LastBranch), ("NoBranch", C_NoBranch), ("NotHere", C_NotHere), ("NotSo", C_NotSo), ("NothingToRedo", C_NothingToRedo), ("NothingToUndo", C_NothingToUndo), ("TwoNames", C_TwoNames), ("UnknownName", C_UnknownName)] xtb = true) :
    ∃ fd : FuncData, (∀ (s : Shared) (v : Value), BindsTo s fd ⟨[v], []⟩ [("script", v)]) ∧ ∀ base : Heap, K.In base → base.Ns mainGlobals mg → FnOk l.prog w K mg base CX0 4 fa fd ["script"] (spS K m_law) := by
  have e := hfa.symm.trans (PySem.W.mg_of X G a_law)
  cases e
  have w_BadChance : List.lookup ("BadChance" : Str) ([("BadChance", .ref C_BadChance), ("BadEntry", .ref C_BadEntry), ("BadKind", .ref C_BadKind), ("BadMark", .ref C_BadMark), ("BadNumber", .ref C_BadNumber), ("BadSize", .ref C_BadSize), ("BadStrategy", .ref C_BadStrategy), ("BadTarget", .ref C_BadTarget), ("BadText", .ref C_BadText), ("CrownError", .ref C_CrownError), ("LastBranch", .ref C_LastBranch), ("NoBranch", .ref C_NoBranch), ("NotHere", .ref C_NotHere), ("NotSo", .ref C_NotSo), ("NothingToRedo", .ref C_NothingToRedo), ("NothingToUndo", .ref C_NothingToUndo), ("TwoNames", .ref C_TwoNames), ("UnknownName", .ref C_UnknownName), ("ValueError", .type "ValueError")] : List (Str × Value)) = some (.ref C_BadChance) := by rfl
  have w_BadEntry : List.lookup ("BadEntry" : Str) ([("BadChance", .ref C_BadChance), ("BadEntry", .ref C_BadEntry), ("BadKind", .ref C_BadKind), ("BadMark", .ref C_BadMark), ("BadNumber", .ref C_BadNumber), ("BadSize", .ref C_BadSize), ("BadStrategy", .ref C_BadStrategy), ("BadTarget", .ref C_BadTarget), ("BadText", .ref C_BadText), ("CrownError", .ref C_CrownError), ("LastBranch", .ref C_LastBranch), ("NoBranch", .ref C_NoBranch), ("NotHere", .ref C_NotHere), ("NotSo", .ref C_NotSo), ("NothingToRedo", .ref C_NothingToRedo), ("NothingToUndo", .ref C_NothingToUndo), ("TwoNames", .ref C_TwoNames), ("UnknownName", .ref C_UnknownName), ("ValueError", .type "ValueError")] : List (Str × Value)) = some (.ref C_BadEntry) := by rfl
  have w_BadKind : List.lookup ("BadKind" : Str) ([("BadChance", .ref C_BadChance), ("BadEntry", .ref C_BadEntry), ("BadKind", .ref C_BadKind), ("BadMark", .ref C_BadMark), ("BadNumber", .ref C_BadNumber), ("BadSize", .ref C_BadSize), ("BadStrategy", .ref C_BadStrategy), ("BadTarget", .ref C_BadTarget), ("BadText", .ref C_BadText), ("CrownError", .ref C_CrownError), ("LastBranch", .ref C_LastBranch), ("NoBranch", .ref C_NoBranch), ("NotHere", .ref C_NotHere), ("NotSo", .ref C_NotSo), ("NothingToRedo", .ref C_NothingToRedo), ("NothingToUndo", .ref C_NothingToUndo), ("TwoNames", .ref C_TwoNames), ("UnknownName", .ref C_UnknownName), ("ValueError", .type "ValueError")] : List (Str × Value)) = some (.ref C_BadKind) := by rfl
  have w_BadMark : List.lookup ("BadMark" : Str) ([("BadChance", .ref C_BadChance), ("BadEntry", .ref C_BadEntry), ("BadKind", .ref C_BadKind), ("BadMark", .ref C_BadMark), ("BadNumber", .ref C_BadNumber), ("BadSize", .ref C_BadSize), ("BadStrategy", .ref C_BadStrategy), ("BadTarget", .ref C_BadTarget), ("BadText", .ref C_BadText), ("CrownError", .ref C_CrownError), ("LastBranch", .ref C_LastBranch), ("NoBranch", .ref C_NoBranch), ("NotHere", .ref C_NotHere), ("NotSo", .ref C_NotSo), ("NothingToRedo", .ref C_NothingToRedo), ("NothingToUndo", .ref C_NothingToUndo), ("TwoNames", .ref C_TwoNames), ("UnknownName", .ref C_UnknownName), ("ValueError", .type "ValueError")] : List (Str × Value)) = some (.ref C_BadMark) := by rfl
  have w_BadNumber : List.lookup ("BadNumber" : Str) ([("BadChance", .ref C_BadChance), ("BadEntry", .ref C_BadEntry), ("BadKind", .ref C_BadKind), ("BadMark", .ref C_BadMark), ("BadNumber", .ref C_BadNumber), ("BadSize", .ref C_BadSize), ("BadStrategy", .ref C_BadStrategy), ("BadTarget", .ref C_BadTarget), ("BadText", .ref C_BadText), ("CrownError", .ref C_CrownError), ("LastBranch", .ref C_LastBranch), ("NoBranch", .ref C_NoBranch), ("NotHere", .ref C_NotHere), ("NotSo", .ref C_NotSo), ("NothingToRedo", .ref C_NothingToRedo), ("NothingToUndo", .ref C_NothingToUndo), ("TwoNames", .ref C_TwoNames), ("UnknownName", .ref C_UnknownName), ("ValueError", .type "ValueError")] : List (Str × Value)) = some (.ref C_BadNumber) := by rfl
  have w_BadSize : List.lookup ("BadSize" : Str) ([("BadChance", .ref C_BadChance), ("BadEntry", .ref C_BadEntry), ("BadKind", .ref C_BadKind), ("BadMark", .ref C_BadMark), ("BadNumber", .ref C_BadNumber), ("BadSize", .ref C_BadSize), ("BadStrategy", .ref C_BadStrategy), ("BadTarget", .ref C_BadTarget), ("BadText", .ref C_BadText), ("CrownError", .ref C_CrownError), ("LastBranch", .ref C_LastBranch), ("NoBranch", .ref C_NoBranch), ("NotHere", .ref C_NotHere), ("NotSo", .ref C_NotSo), ("NothingToRedo", .ref C_NothingToRedo), ("NothingToUndo", .ref C_NothingToUndo), ("TwoNames", .ref C_TwoNames), ("UnknownName", .ref C_UnknownName), ("ValueError", .type "ValueError")] : List (Str × Value)) = some (.ref C_BadSize) := by rfl
  have w_BadStrategy : List.lookup ("BadStrategy" : Str) ([("BadChance", .ref C_BadChance), ("BadEntry", .ref C_BadEntry), ("BadKind", .ref C_BadKind), ("BadMark", .ref C_BadMark), ("BadNumber", .ref C_BadNumber), ("BadSize", .ref C_BadSize), ("BadStrategy", .ref C_BadStrategy), ("BadTarget", .ref C_BadTarget), ("BadText", .ref C_BadText), ("CrownError", .ref C_CrownError), ("LastBranch", .ref C_LastBranch), ("NoBranch", .ref C_NoBranch), ("NotHere", .ref C_NotHere), ("NotSo", .ref C_NotSo), ("NothingToRedo", .ref C_NothingToRedo), ("NothingToUndo", .ref C_NothingToUndo), ("TwoNames", .ref C_TwoNames), ("UnknownName", .ref C_UnknownName), ("ValueError", .type "ValueError")] : List (Str × Value)) = some (.ref C_BadStrategy) := by rfl
  have w_BadTarget : List.lookup ("BadTarget" : Str) ([("BadChance", .ref C_BadChance), ("BadEntry", .ref C_BadEntry), ("BadKind", .ref C_BadKind), ("BadMark", .ref C_BadMark), ("BadNumber", .ref C_BadNumber), ("BadSize", .ref C_BadSize), ("BadStrategy", .ref C_BadStrategy), ("BadTarget", .ref C_BadTarget), ("BadText", .ref C_BadText), ("CrownError", .ref C_CrownError), ("LastBranch", .ref C_LastBranch), ("NoBranch", .ref C_NoBranch), ("NotHere", .ref C_NotHere), ("NotSo", .ref C_NotSo), ("NothingToRedo", .ref C_NothingToRedo), ("NothingToUndo", .ref C_NothingToUndo), ("TwoNames", .ref C_TwoNames), ("UnknownName", .ref C_UnknownName), ("ValueError", .type "ValueError")] : List (Str × Value)) = some (.ref C_BadTarget) := by rfl
  have w_BadText : List.lookup ("BadText" : Str) ([("BadChance", .ref C_BadChance), ("BadEntry", .ref C_BadEntry), ("BadKind", .ref C_BadKind), ("BadMark", .ref C_BadMark), ("BadNumber", .ref C_BadNumber), ("BadSize", .ref C_BadSize), ("BadStrategy", .ref C_BadStrategy), ("BadTarget", .ref C_BadTarget), ("BadText", .ref C_BadText), ("CrownError", .ref C_CrownError), ("LastBranch", .ref C_LastBranch), ("NoBranch", .ref C_NoBranch), ("NotHere", .ref C_NotHere), ("NotSo", .ref C_NotSo), ("NothingToRedo", .ref C_NothingToRedo), ("NothingToUndo", .ref C_NothingToUndo), ("TwoNames", .ref C_TwoNames), ("UnknownName", .ref C_UnknownName), ("ValueError", .type "ValueError")] : List (Str × Value)) = some (.ref C_BadText) := by rfl
  have w_CrownError : List.lookup ("CrownError" : Str) ([("BadChance", .ref C_BadChance), ("BadEntry", .ref C_BadEntry), ("BadKind", .ref C_BadKind), ("BadMark", .ref C_BadMark), ("BadNumber", .ref C_BadNumber), ("BadSize", .ref C_BadSize), ("BadStrategy", .ref C_BadStrategy), ("BadTarget", .ref C_BadTarget), ("BadText", .ref C_BadText), ("CrownError", .ref C_CrownError), ("LastBranch", .ref C_LastBranch), ("NoBranch", .ref C_NoBranch), ("NotHere", .ref C_NotHere), ("NotSo", .ref C_NotSo), ("NothingToRedo", .ref C_NothingToRedo), ("NothingToUndo", .ref C_NothingToUndo), ("TwoNames", .ref C_TwoNames), ("UnknownName", .ref C_UnknownName), ("ValueError", .type "ValueError")] : List (Str × Value)) = some (.ref C_CrownError) := by rfl
  have w_LastBranch : List.lookup ("LastBranch" : Str) ([("BadChance", .ref C_BadChance), ("BadEntry", .ref C_BadEntry), ("BadKind", .ref C_BadKind), ("BadMark", .ref C_BadMark), ("BadNumber", .ref C_BadNumber), ("BadSize", .ref C_BadSize), ("BadStrategy", .ref C_BadStrategy), ("BadTarget", .ref C_BadTarget), ("BadText", .ref C_BadText), ("CrownError", .ref C_CrownError), ("LastBranch", .ref C_LastBranch), ("NoBranch", .ref C_NoBranch), ("NotHere", .ref C_NotHere), ("NotSo", .ref C_NotSo), ("NothingToRedo", .ref C_NothingToRedo), ("NothingToUndo", .ref C_NothingToUndo), ("TwoNames", .ref C_TwoNames), ("UnknownName", .ref C_UnknownName), ("ValueError", .type "ValueError")] : List (Str × Value)) = some (.ref C_LastBranch) := by rfl
  have w_NoBranch : List.lookup ("NoBranch" : Str) ([("BadChance", .ref C_BadChance), ("BadEntry", .ref C_BadEntry), ("BadKind", .ref C_BadKind), ("BadMark", .ref C_BadMark), ("BadNumber", .ref C_BadNumber), ("BadSize", .ref C_BadSize), ("BadStrategy", .ref C_BadStrategy), ("BadTarget", .ref C_BadTarget), ("BadText", .ref C_BadText), ("CrownError", .ref C_CrownError), ("LastBranch", .ref C_LastBranch), ("NoBranch", .ref C_NoBranch), ("NotHere", .ref C_NotHere), ("NotSo", .ref C_NotSo), ("NothingToRedo", .ref C_NothingToRedo), ("NothingToUndo", .ref C_NothingToUndo), ("TwoNames", .ref C_TwoNames), ("UnknownName", .ref C_UnknownName), ("ValueError", .type "ValueError")] : List (Str × Value)) = some (.ref C_NoBranch) := by rfl
  have w_NotHere : List.lookup ("NotHere" : Str) ([("BadChance", .ref C_BadChance), ("BadEntry", .ref C_BadEntry), ("BadKind", .ref C_BadKind), ("BadMark", .ref C_BadMark), ("BadNumber", .ref C_BadNumber), ("BadSize", .ref C_BadSize), ("BadStrategy", .ref C_BadStrategy), ("BadTarget", .ref C_BadTarget), ("BadText", .ref C_BadText), ("CrownError", .ref C_CrownError), ("LastBranch", .ref C_LastBranch), ("NoBranch", .ref C_NoBranch), ("NotHere", .ref C_NotHere), ("NotSo", .ref C_NotSo), ("NothingToRedo", .ref C_NothingToRedo), ("NothingToUndo", .ref C_NothingToUndo), ("TwoNames", .ref C_TwoNames), ("UnknownName", .ref C_UnknownName), ("ValueError", .type "ValueError")] : List (Str × Value)) = some (.ref C_NotHere) := by rfl
  have w_NotSo : List.lookup ("NotSo" : Str) ([("BadChance", .ref C_BadChance), ("BadEntry", .ref C_BadEntry), ("BadKind", .ref C_BadKind), ("BadMark", .ref C_BadMark), ("BadNumber", .ref C_BadNumber), ("BadSize", .ref C_BadSize), ("BadStrategy", .ref C_BadStrategy), ("BadTarget", .ref C_BadTarget), ("BadText", .ref C_BadText), ("CrownError", .ref C_CrownError), ("LastBranch", .ref C_LastBranch), ("NoBranch", .ref C_NoBranch), ("NotHere", .ref C_NotHere), ("NotSo", .ref C_NotSo), ("NothingToRedo", .ref C_NothingToRedo), ("NothingToUndo", .ref C_NothingToUndo), ("TwoNames", .ref C_TwoNames), ("UnknownName", .ref C_UnknownName), ("ValueError", .type "ValueError")] : List (Str × Value)) = some (.ref C_NotSo) := by rfl
  have w_NothingToRedo : List.lookup ("NothingToRedo" : Str) ([("BadChance", .ref C_BadChance), ("BadEntry", .ref C_BadEntry), ("BadKind", .ref C_BadKind), ("BadMark", .ref C_BadMark), ("BadNumber", .ref C_BadNumber), ("BadSize", .ref C_BadSize), ("BadStrategy", .ref C_BadStrategy), ("BadTarget", .ref C_BadTarget), ("BadText", .ref C_BadText), ("CrownError", .ref C_CrownError), ("LastBranch", .ref C_LastBranch), ("NoBranch", .ref C_NoBranch), ("NotHere", .ref C_NotHere), ("NotSo", .ref C_NotSo), ("NothingToRedo", .ref C_NothingToRedo), ("NothingToUndo", .ref C_NothingToUndo), ("TwoNames", .ref C_TwoNames), ("UnknownName", .ref C_UnknownName), ("ValueError", .type "ValueError")] : List (Str × Value)) = some (.ref C_NothingToRedo) := by rfl
  have w_NothingToUndo : List.lookup ("NothingToUndo" : Str) ([("BadChance", .ref C_BadChance), ("BadEntry", .ref C_BadEntry), ("BadKind", .ref C_BadKind), ("BadMark", .ref C_BadMark), ("BadNumber", .ref C_BadNumber), ("BadSize", .ref C_BadSize), ("BadStrategy", .ref C_BadStrategy), ("BadTarget", .ref C_BadTarget), ("BadText", .ref C_BadText), ("CrownError", .ref C_CrownError), ("LastBranch", .ref C_LastBranch), ("NoBranch", .ref C_NoBranch), ("NotHere", .ref C_NotHere), ("NotSo", .ref C_NotSo), ("NothingToRedo", .ref C_NothingToRedo), ("NothingToUndo", .ref C_NothingToUndo), ("TwoNames", .ref C_TwoNames), ("UnknownName", .ref C_UnknownName), ("ValueError", .type "ValueError")] : List (Str × Value)) = some (.ref C_NothingToUndo) := by rfl
  have w_TwoNames : List.lookup ("TwoNames" : Str) ([("BadChance", .ref C_BadChance), ("BadEntry", .ref C_BadEntry), ("BadKind", .ref C_BadKind), ("BadMark", .ref C_BadMark), ("BadNumber", .ref C_BadNumber), ("BadSize", .ref C_BadSize), ("BadStrategy", .ref C_BadStrategy), ("BadTarget", .ref C_BadTarget), ("BadText", .ref C_BadText), ("CrownError", .ref C_CrownError), ("LastBranch", .ref C_LastBranch), ("NoBranch", .ref C_NoBranch), ("NotHere", .ref C_NotHere), ("NotSo", .ref C_NotSo), ("NothingToRedo", .ref C_NothingToRedo), ("NothingToUndo", .ref C_NothingToUndo), ("TwoNames", .ref C_TwoNames), ("UnknownName", .ref C_UnknownName), ("ValueError", .type "ValueError")] : List (Str × Value)) = some (.ref C_TwoNames) := by rfl
  have w_UnknownName : List.lookup ("UnknownName" : Str) ([("BadChance", .ref C_BadChance), ("BadEntry", .ref C_BadEntry), ("BadKind", .ref C_BadKind), ("BadMark", .ref C_BadMark), ("BadNumber", .ref C_BadNumber), ("BadSize", .ref C_BadSize), ("BadStrategy", .ref C_BadStrategy), ("BadTarget", .ref C_BadTarget), ("BadText", .ref C_BadText), ("CrownError", .ref C_CrownError), ("LastBranch", .ref C_LastBranch), ("NoBranch", .ref C_NoBranch), ("NotHere", .ref C_NotHere), ("NotSo", .ref C_NotSo), ("NothingToRedo", .ref C_NothingToRedo), ("NothingToUndo", .ref C_NothingToUndo), ("TwoNames", .ref C_TwoNames), ("UnknownName", .ref C_UnknownName), ("ValueError", .type "ValueError")] : List (Str × Value)) = some (.ref C_UnknownName) := by rfl
  have w_ValueError : List.lookup ("ValueError" : Str) ([("BadChance", .ref C_BadChance), ("BadEntry", .ref C_BadEntry), ("BadKind", .ref C_BadKind), ("BadMark", .ref C_BadMark), ("BadNumber", .ref C_BadNumber), ("BadSize", .ref C_BadSize), ("BadStrategy", .ref C_BadStrategy), ("BadTarget", .ref C_BadTarget), ("BadText", .ref C_BadText), ("CrownError", .ref C_CrownError), ("LastBranch", .ref C_LastBranch), ("NoBranch", .ref C_NoBranch), ("NotHere", .ref C_NotHere), ("NotSo", .ref C_NotSo), ("NothingToRedo", .ref C_NothingToRedo), ("NothingToUndo", .ref C_NothingToUndo), ("TwoNames", .ref C_TwoNames), ("UnknownName", .ref C_UnknownName), ("ValueError", .type "ValueError")] : List (Str × Value)) = some (.type "ValueError") := by rfl
  have TV : XTokV K mg [("BadChance", C_BadChance), ("BadEntry", C_BadEntry), ("BadKind", C_BadKind), ("BadMark", C_BadMark), ("BadNumber", C_BadNumber), ("BadSize", C_BadSize), ("BadStrategy", C_BadStrategy), ("BadTarget", C_BadTarget), ("BadText", C_BadText), ("LastBranch", C_LastBranch), ("NoBranch", C_NoBranch), ("NotHere", C_NotHere), ("NotSo", C_NotSo), ("NothingToRedo", C_NothingToRedo), ("NothingToUndo", C_NothingToUndo), ("TwoNames", C_TwoNames), ("UnknownName", C_UnknownName)] [("BadChance", .ref C_BadChance), ("BadEntry", .ref C_BadEntry), ("BadKind", .ref C_BadKind), ("BadMark", .ref C_BadMark), ("BadNumber", .ref C_BadNumber), ("BadSize", .ref C_BadSize), ("BadStrategy", .ref C_BadStrategy), ("BadTarget", .ref C_BadTarget), ("BadText", .ref C_BadText), ("CrownError", .ref C_CrownError), ("LastBranch", .ref C_LastBranch), ("NoBranch", .ref C_NoBranch), ("NotHere", .ref C_NotHere), ("NotSo", .ref C_NotSo), ("NothingToRedo", .ref C_NothingToRedo), ("NothingToUndo", .ref C_NothingToUndo), ("TwoNames", .ref C_TwoNames), ("UnknownName", .ref C_UnknownName), ("ValueError", .type "ValueError")] xns xcs xtb := ⟨fun t ht => by
    simp only [List.mem_cons, List.not_mem_nil, or_false] at ht
    rcases ht with rfl | rfl | rfl | rfl | rfl | rfl | rfl | rfl | rfl | rfl | rfl | rfl | rfl | rfl | rfl | rfl | rfl
    · exact ⟨PySem.W.mg_of X G xa_BadChance, ⟨xg_BadChance, xo_BadChance, xs_BadChance, xd_BadChance, xl_BadChance, yn, yt, xm_BadChance⟩⟩
    · exact ⟨PySem.W.mg_of X G xa_BadEntry, ⟨xg_BadEntry, xo_BadEntry, xs_BadEntry, xd_BadEntry, xl_BadEntry, yn, yt, xm_BadEntry⟩⟩
    · exact ⟨PySem.W.mg_of X G xa_BadKind, ⟨xg_BadKind, xo_BadKind, xs_BadKind, xd_BadKind, xl_BadKind, yn, yt, xm_BadKind⟩⟩
    · exact ⟨PySem.W.mg_of X G xa_BadMark, ⟨xg_BadMark, xo_BadMark, xs_BadMark, xd_BadMark, xl_BadMark, yn, yt, xm_BadMark⟩⟩
    · exact ⟨PySem.W.mg_of X G xa_BadNumber, ⟨xg_BadNumber, xo_BadNumber, xs_BadNumber, xd_BadNumber, xl_BadNumber, yn, yt, xm_BadNumber⟩⟩
    · exact ⟨PySem.W.mg_of X G xa_BadSize, ⟨xg_BadSize, xo_BadSize, xs_BadSize, xd_BadSize, xl_BadSize, yn, yt, xm_BadSize⟩⟩
    · exact ⟨PySem.W.mg_of X G xa_BadStrategy, ⟨xg_BadStrategy, xo_BadStrategy, xs_BadStrategy, xd_BadStrategy, xl_BadStrategy, yn, yt, xm_BadStrategy⟩⟩
    · exact ⟨PySem.W.mg_of X G xa_BadTarget, ⟨xg_BadTarget, xo_BadTarget, xs_BadTarget, xd_BadTarget, xl_BadTarget, yn, yt, xm_BadTarget⟩⟩
    · exact ⟨PySem.W.mg_of X G xa_BadText, ⟨xg_BadText, xo_BadText, xs_BadText, xd_BadText, xl_BadText, yn, yt, xm_BadText⟩⟩
    · exact ⟨PySem.W.mg_of X G xa_LastBranch, ⟨xg_LastBranch, xo_LastBranch, xs_LastBranch, xd_LastBranch, xl_LastBranch, yn, yt, xm_LastBranch⟩⟩
    · exact ⟨PySem.W.mg_of X G xa_NoBranch, ⟨xg_NoBranch, xo_NoBranch, xs_NoBranch, xd_NoBranch, xl_NoBranch, yn, yt, xm_NoBranch⟩⟩
    · exact ⟨PySem.W.mg_of X G xa_NotHere, ⟨xg_NotHere, xo_NotHere, xs_NotHere, xd_NotHere, xl_NotHere, yn, yt, xm_NotHere⟩⟩
    · exact ⟨PySem.W.mg_of X G xa_NotSo, ⟨xg_NotSo, xo_NotSo, xs_NotSo, xd_NotSo, xl_NotSo, yn, yt, xm_NotSo⟩⟩
    · exact ⟨PySem.W.mg_of X G xa_NothingToRedo, ⟨xg_NothingToRedo, xo_NothingToRedo, xs_NothingToRedo, xd_NothingToRedo, xl_NothingToRedo, yn, yt, xm_NothingToRedo⟩⟩
    · exact ⟨PySem.W.mg_of X G xa_NothingToUndo, ⟨xg_NothingToUndo, xo_NothingToUndo, xs_NothingToUndo, xd_NothingToUndo, xl_NothingToUndo, yn, yt, xm_NothingToUndo⟩⟩
    · exact ⟨PySem.W.mg_of X G xa_TwoNames, ⟨xg_TwoNames, xo_TwoNames, xs_TwoNames, xd_TwoNames, xl_TwoNames, yn, yt, xm_TwoNames⟩⟩
    · exact ⟨PySem.W.mg_of X G xa_UnknownName, ⟨xg_UnknownName, xo_UnknownName, xs_UnknownName, xd_UnknownName, xl_UnknownName, yn, yt, xm_UnknownName⟩⟩, kt_all, rfl, rfl⟩
  have X_BadChance : XCls K mg "BadChance" C_BadChance := ⟨PySem.W.mg_of X G xa_BadChance, xq_BadChance, xk_BadChance, xs_BadChance, xt_BadChance⟩
  have X_BadKind : XCls K mg "BadKind" C_BadKind := ⟨PySem.W.mg_of X G xa_BadKind, xq_BadKind, xk_BadKind, xs_BadKind, xt_BadKind⟩
  have X_BadMark : XCls K mg "BadMark" C_BadMark := ⟨PySem.W.mg_of X G xa_BadMark, xq_BadMark, xk_BadMark, xs_BadMark, xt_BadMark⟩
  have X_BadNumber : XCls K mg "BadNumber" C_BadNumber := ⟨PySem.W.mg_of X G xa_BadNumber, xq_BadNumber, xk_BadNumber, xs_BadNumber, xt_BadNumber⟩
  have X_BadSize : XCls K mg "BadSize" C_BadSize := ⟨PySem.W.mg_of X G xa_BadSize, xq_BadSize, xk_BadSize, xs_BadSize, xt_BadSize⟩
  have X_BadTarget : XCls K mg "BadTarget" C_BadTarget := ⟨PySem.W.mg_of X G xa_BadTarget, xq_BadTarget, xk_BadTarget, xs_BadTarget, xt_BadTarget⟩
  have X_CrownError : XCls K mg "CrownError" C_CrownError := ⟨PySem.W.mg_of X G xa_CrownError, xq_CrownError, xk_CrownError, xs_CrownError, xt_CrownError⟩
  have X_LastBranch : XCls K mg "LastBranch" C_LastBranch := ⟨PySem.W.mg_of X G xa_LastBranch, xq_LastBranch, xk_LastBranch, xs_LastBranch, xt_LastBranch⟩
  have X_NoBranch : XCls K mg "NoBranch" C_NoBranch := ⟨PySem.W.mg_of X G xa_NoBranch, xq_NoBranch, xk_NoBranch, xs_NoBranch, xt_NoBranch⟩
  have X_NotHere : XCls K mg "NotHere" C_NotHere := ⟨PySem.W.mg_of X G xa_NotHere, xq_NotHere, xk_NotHere, xs_NotHere, xt_NotHere⟩
  have X_NotSo : XCls K mg "NotSo" C_NotSo := ⟨PySem.W.mg_of X G xa_NotSo, xq_NotSo, xk_NotSo, xs_NotSo, xt_NotSo⟩
  have X_NothingToRedo : XCls K mg "NothingToRedo" C_NothingToRedo := ⟨PySem.W.mg_of X G xa_NothingToRedo, xq_NothingToRedo, xk_NothingToRedo, xs_NothingToRedo, xt_NothingToRedo⟩
  have X_NothingToUndo : XCls K mg "NothingToUndo" C_NothingToUndo := ⟨PySem.W.mg_of X G xa_NothingToUndo, xq_NothingToUndo, xk_NothingToUndo, xs_NothingToUndo, xt_NothingToUndo⟩


  have F := fun_mk (st := s_law) l_law c_law e_law
  refine ⟨PySem.W.fnOf "law" "law" (defArgs s_law) (defBody s_law) (defScope s_law) .none kV_law dc_law pm_law an_law cd_law ct_law, fun s v => .of_eq rfl, fun base _ _ => ?_⟩
  have XF_BadEntry : XFld l.prog w K mg base "BadEntry" C_BadEntry ["place"] := ⟨PySem.W.mg_of X G xa_BadEntry, oex_of xo2_BadEntry xs_BadEntry xt_BadEntry, fun Y h => raises_own (by rw [h]; exact xs_BadEntry) (by rw [h]; exact xt_BadEntry), (fun f hf => by simp only [List.mem_cons, List.not_mem_nil, or_false] at hf; subst hf; exact xf0_BadEntry), xfB_ok xb_BadEntry, ⟨fI_BadEntry, _, _, ia_BadEntry, it_BadEntry, okI_BadEntry (fun_mk (st := sI_BadEntry) il_BadEntry ic_BadEntry ie_BadEntry), (fun_mk (st := sI_BadEntry) il_BadEntry ic_BadEntry ie_BadEntry).binds fun _ _ _ _ _ _ us hl => match us, hl with | [_, _], _ => rfl⟩⟩
  have XF_BadStrategy : XFld l.prog w K mg base "BadStrategy" C_BadStrategy ["place"] := ⟨PySem.W.mg_of X G xa_BadStrategy, oex_of xo2_BadStrategy xs_BadStrategy xt_BadStrategy, fun Y h => raises_own (by rw [h]; exact xs_BadStrategy) (by rw [h]; exact xt_BadStrategy), (fun f hf => by simp only [List.mem_cons, List.not_mem_nil, or_false] at hf; subst hf; exact xf0_BadStrategy), xfB_ok xb_BadStrategy, ⟨fI_BadStrategy, _, _, ia_BadStrategy, it_BadStrategy, okI_BadStrategy (fun_mk (st := sI_BadStrategy) il_BadStrategy ic_BadStrategy ie_BadStrategy), (fun_mk (st := sI_BadStrategy) il_BadStrategy ic_BadStrategy ie_BadStrategy).binds fun _ _ _ _ _ _ us hl => match us, hl with | [_, _], _ => rfl⟩⟩
  have XF_BadText : XFld l.prog w K mg base "BadText" C_BadText ["line", "column"] := ⟨PySem.W.mg_of X G xa_BadText, oex_of xo2_BadText xs_BadText xt_BadText, fun Y h => raises_own (by rw [h]; exact xs_BadText) (by rw [h]; exact xt_BadText), (fun f hf => by simp only [List.mem_cons, List.not_mem_nil, or_false] at hf; rcases hf with rfl | rfl; exact xf0_BadText; exact xf1_BadText), xfB_ok xb_BadText, ⟨fI_BadText, _, _, ia_BadText, it_BadText, okI_BadText (fun_mk (st := sI_BadText) il_BadText ic_BadText ie_BadText), (fun_mk (st := sI_BadText) il_BadText ic_BadText ie_BadText).binds fun _ _ _ _ _ _ us hl => match us, hl with | [_, _, _], _ => rfl⟩⟩
  have XF_TwoNames : XFld l.prog w K mg base "TwoNames" C_TwoNames ["line"] := ⟨PySem.W.mg_of X G xa_TwoNames, oex_of xo2_TwoNames xs_TwoNames xt_TwoNames, fun Y h => raises_own (by rw [h]; exact xs_TwoNames) (by rw [h]; exact xt_TwoNames), (fun f hf => by simp only [List.mem_cons, List.not_mem_nil, or_false] at hf; subst hf; exact xf0_TwoNames), xfB_ok xb_TwoNames, ⟨fI_TwoNames, _, _, ia_TwoNames, it_TwoNames, okI_TwoNames (fun_mk (st := sI_TwoNames) il_TwoNames ic_TwoNames ie_TwoNames), (fun_mk (st := sI_TwoNames) il_TwoNames ic_TwoNames ie_TwoNames).binds fun _ _ _ _ _ _ us hl => match us, hl with | [_, _], _ => rfl⟩⟩
  have XF_UnknownName : XFld l.prog w K mg base "UnknownName" C_UnknownName ["line", "column"] := ⟨PySem.W.mg_of X G xa_UnknownName, oex_of xo2_UnknownName xs_UnknownName xt_UnknownName, fun Y h => raises_own (by rw [h]; exact xs_UnknownName) (by rw [h]; exact xt_UnknownName), (fun f hf => by simp only [List.mem_cons, List.not_mem_nil, or_false] at hf; rcases hf with rfl | rfl; exact xf0_UnknownName; exact xf1_UnknownName), xfB_ok xb_UnknownName, ⟨fI_UnknownName, _, _, ia_UnknownName, it_UnknownName, okI_UnknownName (fun_mk (st := sI_UnknownName) il_UnknownName ic_UnknownName ie_UnknownName), (fun_mk (st := sI_UnknownName) il_UnknownName ic_UnknownName ie_UnknownName).binds fun _ _ _ _ _ _ us hl => match us, hl with | [_, _, _], _ => rfl⟩⟩
  have D__law_draws := ok__law_draws (P := l.prog) (w := w) (mg := mg) (base := base) (fun_mk (st := s__law_draws) l__law_draws c__law_draws e__law_draws) (PySem.W.mg_of X G a__law_draws) (PySem.W.mg_none_of X G z_int) (PySem.W.mg_none_of X G z_len) (PySem.W.mg_none_of X G z_range)
  have DE__law_marks := okE__law_marks (FN := Lw.fnX) (P := l.prog) (w := w) (mg := mg) (base := base) (fun_mk (st := s__law_marks) l__law_marks c__law_marks e__law_marks) (PySem.W.mg_of X G a__law_marks) (PySem.W.mg_none_of X G z_isinstance) XF_BadEntry rfl XF_BadStrategy rfl XF_BadText rfl XF_TwoNames rfl XF_UnknownName rfl X_BadChance X_BadKind X_BadMark X_BadNumber X_BadSize X_BadTarget X_LastBranch X_NoBranch X_NotHere X_NotSo X_NothingToRedo X_NothingToUndo w_BadChance w_BadEntry w_BadKind w_BadMark w_BadNumber w_BadSize w_BadStrategy w_BadTarget w_BadText w_LastBranch w_NoBranch w_NotHere w_NotSo w_NothingToRedo w_NothingToUndo w_TwoNames w_UnknownName TV
  have DE__law_alone := okE__law_alone (FN := Lw.fnX) (P := l.prog) (w := w) (mg := mg) (base := base) (fun_mk (st := s__law_alone) l__law_alone c__law_alone e__law_alone) (PySem.W.mg_of X G a__law_alone) (PySem.W.mg_none_of X G z_ValueError) (PySem.W.mg_none_of X G z_all) (PySem.W.mg_none_of X G z_isinstance) (PySem.W.mg_none_of X G z_len) (PySem.W.mg_none_of X G z_range) X_CrownError w_CrownError w_ValueError TV DE__law_marks
  have D__law_plain_errors := ok__law_plain_errors (P := l.prog) (w := w) (mg := mg) (base := base) (fun_mk (st := s__law_plain_errors) l__law_plain_errors c__law_plain_errors e__law_plain_errors) (PySem.W.mg_of X G a__law_plain_errors) (PySem.W.mg_none_of X G z_all) X_BadChance X_BadKind X_BadMark X_BadNumber X_BadSize X_BadTarget X_LastBranch X_NoBranch X_NotHere X_NotSo X_NothingToRedo X_NothingToUndo DE__law_alone
  exact ok_law (FN := Lw.fnX) (P := l.prog) (w := w) (mg := mg) (base := base) F (PySem.W.mg_none_of X G z_all) (PySem.W.mg_none_of X G z_int) (PySem.W.mg_none_of X G z_range) XF_BadEntry rfl XF_BadStrategy rfl XF_BadText rfl XF_TwoNames rfl XF_UnknownName rfl D__law_draws DE__law_alone D__law_plain_errors
end Lw
open PySem PySem.W PyProof.Rows
set_option maxHeartbeats 0 in
theorem PySem.Challenge.cw_oddcrown_k00_errors_stand_apart_holds : PySem.Challenge.rw_oddcrown_k00_errors_stand_apart.Holds := by
  w_on; o_law; k_head; (case hw => w_witness2)
  k_fill
  refine L2.walk_of (l := PySem.Challenge.rw_oddcrown_k00_errors_stand_apart) (n := 63) (k := 4) (x := "script") (CX := fun _ => L2.CX0) (sp := fun w => Dl.spS _ Lw.m_law) rfl (by decide) rfl ⟨rfl, by decide, by decide⟩ (fun w h Y => PySem.W.kIn_of Y) ?F (fun _ H a ns hl _ hS => Dl.law_end Lw.law_true H a ns hl hS) (fun _ _ _ _ _ h => h)
  case F =>
    intro w mg fa h KX G hmg
    refine' Lw.all_mk KX G hmg ?a__law_draws ?l__law_draws ?c__law_draws ?e__law_draws ?a__law_marks ?l__law_marks ?c__law_marks ?e__law_marks ?a__law_alone ?l__law_alone ?c__law_alone ?e__law_alone ?a__law_plain_errors ?l__law_plain_errors ?c__law_plain_errors ?e__law_plain_errors ?a_law ?l_law ?c_law ?e_law ?z_ValueError ?z_all ?z_int ?z_isinstance ?z_len ?z_range ?xa_BadEntry ?xo2_BadEntry ?xb_BadEntry ?xs_BadEntry ?xt_BadEntry ?xf0_BadEntry ?ia_BadEntry ?it_BadEntry ?il_BadEntry ?ic_BadEntry ?ie_BadEntry ?xa_BadStrategy ?xo2_BadStrategy ?xb_BadStrategy ?xs_BadStrategy ?xt_BadStrategy ?xf0_BadStrategy ?ia_BadStrategy ?it_BadStrategy ?il_BadStrategy ?ic_BadStrategy ?ie_BadStrategy ?xa_BadText ?xo2_BadText ?xb_BadText ?xs_BadText ?xt_BadText ?xf0_BadText ?xf1_BadText ?ia_BadText ?it_BadText ?il_BadText ?ic_BadText ?ie_BadText ?xa_TwoNames ?xo2_TwoNames ?xb_TwoNames ?xs_TwoNames ?xt_TwoNames ?xf0_TwoNames ?ia_TwoNames ?it_TwoNames ?il_TwoNames ?ic_TwoNames ?ie_TwoNames ?xa_UnknownName ?xo2_UnknownName ?xb_UnknownName ?xs_UnknownName ?xt_UnknownName ?xf0_UnknownName ?xf1_UnknownName ?ia_UnknownName ?it_UnknownName ?il_UnknownName ?ic_UnknownName ?ie_UnknownName ?xa_BadChance ?xq_BadChance ?xk_BadChance ?xs_BadChance ?xt_BadChance ?xa_BadKind ?xq_BadKind ?xk_BadKind ?xs_BadKind ?xt_BadKind ?xa_BadMark ?xq_BadMark ?xk_BadMark ?xs_BadMark ?xt_BadMark ?xa_BadNumber ?xq_BadNumber ?xk_BadNumber ?xs_BadNumber ?xt_BadNumber ?xa_BadSize ?xq_BadSize ?xk_BadSize ?xs_BadSize ?xt_BadSize ?xa_BadTarget ?xq_BadTarget ?xk_BadTarget ?xs_BadTarget ?xt_BadTarget ?xa_CrownError ?xq_CrownError ?xk_CrownError ?xs_CrownError ?xt_CrownError ?xa_LastBranch ?xq_LastBranch ?xk_LastBranch ?xs_LastBranch ?xt_LastBranch ?xa_NoBranch ?xq_NoBranch ?xk_NoBranch ?xs_NoBranch ?xt_NoBranch ?xa_NotHere ?xq_NotHere ?xk_NotHere ?xs_NotHere ?xt_NotHere ?xa_NotSo ?xq_NotSo ?xk_NotSo ?xs_NotSo ?xt_NotSo ?xa_NothingToRedo ?xq_NothingToRedo ?xk_NothingToRedo ?xs_NothingToRedo ?xt_NothingToRedo ?xa_NothingToUndo ?xq_NothingToUndo ?xk_NothingToUndo ?xs_NothingToUndo ?xt_NothingToUndo ?yn ?yt ?xg_BadChance ?xo_BadChance ?xd_BadChance ?xl_BadChance ?xm_BadChance ?xg_BadEntry ?xo_BadEntry ?xd_BadEntry ?xl_BadEntry ?xm_BadEntry ?xg_BadKind ?xo_BadKind ?xd_BadKind ?xl_BadKind ?xm_BadKind ?xg_BadMark ?xo_BadMark ?xd_BadMark ?xl_BadMark ?xm_BadMark ?xg_BadNumber ?xo_BadNumber ?xd_BadNumber ?xl_BadNumber ?xm_BadNumber ?xg_BadSize ?xo_BadSize ?xd_BadSize ?xl_BadSize ?xm_BadSize ?xg_BadStrategy ?xo_BadStrategy ?xd_BadStrategy ?xl_BadStrategy ?xm_BadStrategy ?xg_BadTarget ?xo_BadTarget ?xd_BadTarget ?xl_BadTarget ?xm_BadTarget ?xg_BadText ?xo_BadText ?xd_BadText ?xl_BadText ?xm_BadText ?xg_LastBranch ?xo_LastBranch ?xd_LastBranch ?xl_LastBranch ?xm_LastBranch ?xg_NoBranch ?xo_NoBranch ?xd_NoBranch ?xl_NoBranch ?xm_NoBranch ?xg_NotHere ?xo_NotHere ?xd_NotHere ?xl_NotHere ?xm_NotHere ?xg_NotSo ?xo_NotSo ?xd_NotSo ?xl_NotSo ?xm_NotSo ?xg_NothingToRedo ?xo_NothingToRedo ?xd_NothingToRedo ?xl_NothingToRedo ?xm_NothingToRedo ?xg_NothingToUndo ?xo_NothingToUndo ?xd_NothingToUndo ?xl_NothingToUndo ?xm_NothingToUndo ?xg_TwoNames ?xo_TwoNames ?xd_TwoNames ?xl_TwoNames ?xm_TwoNames ?xg_UnknownName ?xo_UnknownName ?xd_UnknownName ?xl_UnknownName ?xm_UnknownName ?kt_all
    (case a__law_draws => k_is); (case l__law_draws => k_is); (case c__law_draws => k_is); (case e__law_draws => k_is); (case a__law_marks => k_is); (case l__law_marks => k_is); (case c__law_marks => k_is); (case e__law_marks => k_is); (case a__law_alone => k_is); (case l__law_alone => k_is); (case c__law_alone => k_is); (case e__law_alone => k_is); (case a__law_plain_errors => k_is); (case l__law_plain_errors => k_is); (case c__law_plain_errors => k_is); (case e__law_plain_errors => k_is); (case a_law => k_is); (case l_law => k_is); (case c_law => k_is); (case e_law => k_is); (case z_ValueError => k_is); (case z_all => k_is); (case z_int => k_is); (case z_isinstance => k_is); (case z_len => k_is); (case z_range => k_is); (case xa_BadEntry => k_is); (case xo2_BadEntry => kernel_rfl); (case xb_BadEntry => kernel_rfl); (case xs_BadEntry => k_is); (case xt_BadEntry => k_is); (case xf0_BadEntry => k_is); (case ia_BadEntry => k_is); (case it_BadEntry => k_is); (case il_BadEntry => k_is); (case ic_BadEntry => k_is); (case ie_BadEntry => k_is); (case xa_BadStrategy => k_is); (case xo2_BadStrategy => kernel_rfl); (case xb_BadStrategy => kernel_rfl); (case xs_BadStrategy => k_is); (case xt_BadStrategy => k_is); (case xf0_BadStrategy => k_is); (case ia_BadStrategy => k_is); (case it_BadStrategy => k_is); (case il_BadStrategy => k_is); (case ic_BadStrategy => k_is); (case ie_BadStrategy => k_is); (case xa_BadText => k_is); (case xo2_BadText => kernel_rfl); (case xb_BadText => kernel_rfl); (case xs_BadText => k_is); (case xt_BadText => k_is); (case xf0_BadText => k_is); (case xf1_BadText => k_is); (case ia_BadText => k_is); (case it_BadText => k_is); (case il_BadText => k_is); (case ic_BadText => k_is); (case ie_BadText => k_is); (case xa_TwoNames => k_is); (case xo2_TwoNames => kernel_rfl); (case xb_TwoNames => kernel_rfl); (case xs_TwoNames => k_is); (case xt_TwoNames => k_is); (case xf0_TwoNames => k_is); (case ia_TwoNames => k_is); (case it_TwoNames => k_is); (case il_TwoNames => k_is); (case ic_TwoNames => k_is); (case ie_TwoNames => k_is); (case xa_UnknownName => k_is); (case xo2_UnknownName => kernel_rfl); (case xb_UnknownName => kernel_rfl); (case xs_UnknownName => k_is); (case xt_UnknownName => k_is); (case xf0_UnknownName => k_is); (case xf1_UnknownName => k_is); (case ia_UnknownName => k_is); (case it_UnknownName => k_is); (case il_UnknownName => k_is); (case ic_UnknownName => k_is); (case ie_UnknownName => k_is); (case xa_BadChance => k_is); (case xq_BadChance => kernel_rfl); (case xk_BadChance => k_is); (case xs_BadChance => k_is); (case xt_BadChance => k_is); (case xa_BadKind => k_is); (case xq_BadKind => kernel_rfl); (case xk_BadKind => k_is); (case xs_BadKind => k_is); (case xt_BadKind => k_is); (case xa_BadMark => k_is); (case xq_BadMark => kernel_rfl); (case xk_BadMark => k_is); (case xs_BadMark => k_is); (case xt_BadMark => k_is); (case xa_BadNumber => k_is); (case xq_BadNumber => kernel_rfl); (case xk_BadNumber => k_is); (case xs_BadNumber => k_is); (case xt_BadNumber => k_is); (case xa_BadSize => k_is); (case xq_BadSize => kernel_rfl); (case xk_BadSize => k_is); (case xs_BadSize => k_is); (case xt_BadSize => k_is); (case xa_BadTarget => k_is); (case xq_BadTarget => kernel_rfl); (case xk_BadTarget => k_is); (case xs_BadTarget => k_is); (case xt_BadTarget => k_is); (case xa_CrownError => k_is); (case xq_CrownError => kernel_rfl); (case xk_CrownError => k_is); (case xs_CrownError => k_is); (case xt_CrownError => k_is); (case xa_LastBranch => k_is); (case xq_LastBranch => kernel_rfl); (case xk_LastBranch => k_is); (case xs_LastBranch => k_is); (case xt_LastBranch => k_is); (case xa_NoBranch => k_is); (case xq_NoBranch => kernel_rfl); (case xk_NoBranch => k_is); (case xs_NoBranch => k_is); (case xt_NoBranch => k_is); (case xa_NotHere => k_is); (case xq_NotHere => kernel_rfl); (case xk_NotHere => k_is); (case xs_NotHere => k_is); (case xt_NotHere => k_is); (case xa_NotSo => k_is); (case xq_NotSo => kernel_rfl); (case xk_NotSo => k_is); (case xs_NotSo => k_is); (case xt_NotSo => k_is); (case xa_NothingToRedo => k_is); (case xq_NothingToRedo => kernel_rfl); (case xk_NothingToRedo => k_is); (case xs_NothingToRedo => k_is); (case xt_NothingToRedo => k_is); (case xa_NothingToUndo => k_is); (case xq_NothingToUndo => kernel_rfl); (case xk_NothingToUndo => k_is); (case xs_NothingToUndo => k_is); (case xt_NothingToUndo => k_is); (case yn => k_is); (case yt => k_is); (case xg_BadChance => k_is); (case xo_BadChance => k_is); (case xd_BadChance => k_is); (case xl_BadChance => k_is); (case xm_BadChance => k_is); (case xg_BadEntry => k_is); (case xo_BadEntry => k_is); (case xd_BadEntry => k_is); (case xl_BadEntry => k_is); (case xm_BadEntry => k_is); (case xg_BadKind => k_is); (case xo_BadKind => k_is); (case xd_BadKind => k_is); (case xl_BadKind => k_is); (case xm_BadKind => k_is); (case xg_BadMark => k_is); (case xo_BadMark => k_is); (case xd_BadMark => k_is); (case xl_BadMark => k_is); (case xm_BadMark => k_is); (case xg_BadNumber => k_is); (case xo_BadNumber => k_is); (case xd_BadNumber => k_is); (case xl_BadNumber => k_is); (case xm_BadNumber => k_is); (case xg_BadSize => k_is); (case xo_BadSize => k_is); (case xd_BadSize => k_is); (case xl_BadSize => k_is); (case xm_BadSize => k_is); (case xg_BadStrategy => k_is); (case xo_BadStrategy => k_is); (case xd_BadStrategy => k_is); (case xl_BadStrategy => k_is); (case xm_BadStrategy => k_is); (case xg_BadTarget => k_is); (case xo_BadTarget => k_is); (case xd_BadTarget => k_is); (case xl_BadTarget => k_is); (case xm_BadTarget => k_is); (case xg_BadText => k_is); (case xo_BadText => k_is); (case xd_BadText => k_is); (case xl_BadText => k_is); (case xm_BadText => k_is); (case xg_LastBranch => k_is); (case xo_LastBranch => k_is); (case xd_LastBranch => k_is); (case xl_LastBranch => k_is); (case xm_LastBranch => k_is); (case xg_NoBranch => k_is); (case xo_NoBranch => k_is); (case xd_NoBranch => k_is); (case xl_NoBranch => k_is); (case xm_NoBranch => k_is); (case xg_NotHere => k_is); (case xo_NotHere => k_is); (case xd_NotHere => k_is); (case xl_NotHere => k_is); (case xm_NotHere => k_is); (case xg_NotSo => k_is); (case xo_NotSo => k_is); (case xd_NotSo => k_is); (case xl_NotSo => k_is); (case xm_NotSo => k_is); (case xg_NothingToRedo => k_is); (case xo_NothingToRedo => k_is); (case xd_NothingToRedo => k_is); (case xl_NothingToRedo => k_is); (case xm_NothingToRedo => k_is); (case xg_NothingToUndo => k_is); (case xo_NothingToUndo => k_is); (case xd_NothingToUndo => k_is); (case xl_NothingToUndo => k_is); (case xm_NothingToUndo => k_is); (case xg_TwoNames => k_is); (case xo_TwoNames => k_is); (case xd_TwoNames => k_is); (case xl_TwoNames => k_is); (case xm_TwoNames => k_is); (case xg_UnknownName => k_is); (case xo_UnknownName => k_is); (case xd_UnknownName => k_is); (case xl_UnknownName => k_is); (case xm_UnknownName => k_is); (case kt_all => kernel_rfl)

