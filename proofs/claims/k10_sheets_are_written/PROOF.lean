import PyProof.Rows.All
import Wide.All
import OpenK.AllK
import Wide.FinOn
import HandS.ForMost
import HandS.IsInst
import HandS.Gcd
import HandS.Flow
import HandS.StrMore
import HandS.FStr
import HandS.Dict
import HandS.Style
import PySem.Challenge.RW_oddcrown_k10_sheets_are_written
set_option Elab.async false
set_option linter.all false
set_option maxRecDepth 100000
set_option maxHeartbeats 2000000
/-! The data layer: what a def does to plain data, over the readings of the hand layer; no addresses in its statements. -/
namespace Dl
open PySem PySem.Spec PyProof.Rows L2
abbrev D := PyData
/-- a slot: nothing known; shared data; a list of its own -/
inductive Sl where
  | un
  | sh (d : D)
  | ow (ds : List D)
  /-- the script: a list of ints that is read -/
  | sq (ns : List Int)
abbrev En := List Sl

/-- G is what shared data stand on, H all; both grow -/
structure Ext (G H G' H' : Hp) : Prop where
  gg : Same G G'
  hh : Same H H'
  gh : Same G' H'
  nw : ∀ p, H p ≠ none → G p = none → G' p = none
theorem Ext.refl {G H : Hp} (h : Same G H) : Ext G H G H := ⟨Same.refl G, Same.refl H, h, fun _ _ e => e⟩
theorem same_some {H H' : Hp} {p : Addr} (s : Same H H') (h : H p ≠ none) : H' p ≠ none := by
  cases e : H p with
  | none => exact absurd e h
  | some o => rw [s p o e]; exact fun z => by cases z
theorem Ext.trans {G H G1 H1 G2 H2 : Hp} (a : Ext G H G1 H1) (b : Ext G1 H1 G2 H2) : Ext G H G2 H2 :=
  ⟨a.gg.trans b.gg, a.hh.trans b.hh, b.gh, fun p h g => b.nw p (same_some a.hh h) (a.nw p h g)⟩
theorem same_upd {H : Hp} {p : Addr} {o : HO} (h : H p = none) : Same H (upd H p o) := fun b x e => by
  rw [upd_ne (ne_of_none e h)]
  exact e
/-- a new shared object -/
theorem Ext.new {G H : Hp} {p : Addr} {o : HO} (s : Same G H) (h : H p = none) : Ext G H (upd G p o) (upd H p o) := by
  have g : G p = none := s.free h
  refine ⟨same_upd g, same_upd h, fun b x e => ?_, fun q hq gq => ?_⟩
  · by_cases z : b = p
    · subst z; rw [upd_same] at e ⊢; exact e
    · rw [upd_ne z] at e ⊢; exact s b x e
  · have z : q ≠ p := fun e => hq (by rw [e]; exact h)
    rw [upd_ne z]; exact gq
/-- a new object that is nobody's yet -/
theorem Ext.own {G H : Hp} {p : Addr} {o : HO} (s : Same G H) (h : H p = none) : Ext G H G (upd H p o) :=
  ⟨Same.refl G, same_upd h, s.trans (same_upd h), fun _ _ e => e⟩

theorem rd_mono {H H' : Hp} {a : Addr} {u : HO} (e : Same H H') (h : Rd H a u) : Rd H' a u := by
  rcases h with h | ⟨o, h⟩
  · exact .inl (e _ _ h)
  · exact .inr ⟨o, e _ _ h⟩
mutual
/-- v is the data d, on the heap H -/
inductive Dp (K : PySem.W.Frag) (H : Hp) : V → PyData → Prop
  | non : Dp K H .non .none
  | bl (b : Bool) : Dp K H (.bl b) (.bool b)
  | int (i : Int) : Dp K H (.int i) (.int i)
  | str (x : Str) : Dp K H (.str x) (.str x)
  | lst {a : Addr} {xs : List V} {ds : List PyData} : Rd H a (.lst xs) → DpAll K H xs ds → Dp K H (.ref a) (.list ds)
  | tup {a : Addr} {xs : List V} {ds : List PyData} : SqT K H a xs → DpAll K H xs ds → Dp K H (.ref a) (.tuple ds)
inductive DpAll (K : PySem.W.Frag) (H : Hp) : List V → List PyData → Prop
  | nil : DpAll K H [] []
  | cons {v : V} {vs : List V} {d : PyData} {ds : List PyData} : Dp K H v d → DpAll K H vs ds → DpAll K H (v :: vs) (d :: ds)
end
theorem sqt_mono {K : PySem.W.Frag} {H H' : Hp} {a : Addr} {xs : List V} (e : Same H H') (h : SqT K H a xs) : SqT K H' a xs := by
  rcases h with (h | ⟨o, h⟩) | h
  · exact .inl (.inl (e _ _ h))
  · exact .inl (.inr ⟨o, e _ _ h⟩)
  · exact .inr h
mutual
theorem dp_mono {K : PySem.W.Frag} {H H' : Hp} (e : Same H H') : ∀ (d : D) (v : V), Dp K H v d → Dp K H' v d
  | .none, _, h => by cases h; exact .non
  | .bool b, _, h => by cases h; exact .bl b
  | .int i, _, h => by cases h; exact .int i
  | .str x, _, h => by cases h; exact .str x
  | .list ds, _, h => by
    cases h with
    | lst hs ha => exact .lst (rd_mono e hs) (dpa_mono e ds _ ha)
  | .tuple ds, _, h => by
    cases h with
    | tup hs ha => exact .tup (sqt_mono e hs) (dpa_mono e ds _ ha)
  | .dict _, _, h => by cases h
theorem dpa_mono {K : PySem.W.Frag} {H H' : Hp} (e : Same H H') : ∀ (ds : List D) (vs : List V), DpAll K H vs ds → DpAll K H' vs ds
  | [], _, h => by cases h; exact .nil
  | d :: ds, _, h => by
    cases h with
    | cons h1 h2 => exact .cons (dp_mono e d _ h1) (dpa_mono e ds _ h2)
end
mutual
theorem dp_lay {K : PySem.W.Frag} {H : Hp} : ∀ (d : D) (v : V), Dp K H v d → L2.Dp K H v d
  | .none, _, h => by cases h; exact .non
  | .bool b, _, h => by cases h; exact .bl b
  | .int i, _, h => by cases h; exact .int i
  | .str x, _, h => by cases h; exact .str x
  | .list ds, _, h => by
    cases h with
    | lst hs ha => exact .lst (.inl hs) (dpa_lay ds _ ha)
  | .tuple ds, _, h => by
    cases h with
    | tup hs ha => exact .tup hs (dpa_lay ds _ ha)
  | .dict _, _, h => by cases h
theorem dpa_lay {K : PySem.W.Frag} {H : Hp} : ∀ (ds : List D) (vs : List V), DpAll K H vs ds → L2.DpAll K H vs ds
  | [], _, h => by cases h; exact .nil
  | d :: ds, _, h => by
    cases h with
    | cons h1 h2 => exact .cons (dp_lay d _ h1) (dpa_lay ds _ h2)
end
theorem dpa_len {K : PySem.W.Frag} {H : Hp} : ∀ {vs : List V} {ds : List D}, DpAll K H vs ds → vs.length = ds.length
  | _, _, .nil => rfl
  | _, _, .cons _ t => congrArg (· + 1) (dpa_len t)
theorem dpa_get {K : PySem.W.Frag} {H : Hp} : ∀ {vs : List V} {ds : List D} {i : Nat} {d : D}, DpAll K H vs ds → ds[i]? = some d → ∃ v, vs[i]? = some v ∧ Dp K H v d
  | _, _, _, _, .nil, e => by simp at e
  | _, _, 0, _, .cons r _, e => by simp at e; subst e; exact ⟨_, rfl, r⟩
  | _, _, i + 1, d, .cons _ t, e => by
    obtain ⟨v, h1, h2⟩ := dpa_get (i := i) (d := d) t (by simpa using e)
    exact ⟨v, by simpa using h1, h2⟩
theorem dpa_get' {K : PySem.W.Frag} {H : Hp} {vs : List V} {ds : List D} {i : Nat} {d : D} {v : V} (h : DpAll K H vs ds) (e : ds[i]? = some d) (ev : vs[i]? = some v) : Dp K H v d := by
  obtain ⟨u, h1, h2⟩ := dpa_get h e
  rw [ev] at h1; cases h1; exact h2
theorem dpa_app {K : PySem.W.Frag} {H : Hp} : ∀ {vs ws : List V} {ds es : List D}, DpAll K H vs ds → DpAll K H ws es → DpAll K H (vs ++ ws) (ds ++ es)
  | _, _, _, _, .nil, s => s
  | _, _, _, _, .cons r t, s => .cons r (dpa_app t s)
theorem dpa_take {K : PySem.W.Frag} {H : Hp} : ∀ {vs : List V} {ds : List D} (n : Nat), DpAll K H vs ds → DpAll K H (vs.take n) (ds.take n)
  | _, _, 0, _ => .nil
  | _, _, _ + 1, .nil => .nil
  | _, _, n + 1, .cons r t => .cons r (dpa_take n t)
theorem dpa_drop {K : PySem.W.Frag} {H : Hp} : ∀ {vs : List V} {ds : List D} (n : Nat), DpAll K H vs ds → DpAll K H (vs.drop n) (ds.drop n)
  | _, _, 0, r => r
  | _, _, _ + 1, .nil => .nil
  | _, _, n + 1, .cons _ t => dpa_drop n t
theorem dpa_set {K : PySem.W.Frag} {H : Hp} {v : V} {d : D} (r : Dp K H v d) : ∀ {vs : List V} {ds : List D} (i : Nat), DpAll K H vs ds → DpAll K H (vs.set i v) (ds.set i d)
  | _, _, _, .nil => .nil
  | _, _, 0, .cons _ t => .cons r t
  | _, _, i + 1, .cons q t => .cons q (dpa_set r i t)
theorem dpa_one {K : PySem.W.Frag} {H : Hp} {v : V} {d : D} (r : Dp K H v d) : DpAll K H [v] [d] := .cons r .nil
theorem dpa_ints {K : PySem.W.Frag} {H : Hp} : ∀ ns : List Int, DpAll K H (ns.map V.int) (ns.map PyData.int)
  | [] => .nil
  | n :: ns => .cons (.int n) (dpa_ints ns)

/-- data without an address -/
def atom : D → Bool
  | .none => true
  | .bool _ => true
  | .int _ => true
  | .str _ => true
  | _ => false
theorem dp_atom {K : PySem.W.Frag} {H H' : Hp} {v : V} : ∀ {d : D}, atom d = true → Dp K H v d → Dp K H' v d
  | .none, _, h => by cases h; exact .non
  | .bool b, _, h => by cases h; exact .bl b
  | .int i, _, h => by cases h; exact .int i
  | .str x, _, h => by cases h; exact .str x
  | .list _, e, _ => by cases e
  | .tuple _, e, _ => by cases e
  | .dict _, e, _ => by cases e
theorem dpa_atom {K : PySem.W.Frag} {H H' : Hp} : ∀ {vs : List V} {ds : List D}, ds.all atom = true → DpAll K H vs ds → DpAll K H' vs ds
  | _, _, _, .nil => .nil
  | _, _, e, .cons r t => by
    rw [List.all_cons, Bool.and_eq_true] at e
    exact .cons (dp_atom e.1 r) (dpa_atom e.2 t)

/-- the slots, for an expression: all data stand on G -/
structure SE (K : PySem.W.Frag) (env : En) (σ : L2.St) (G : Hp) : Prop where
  len : σ.length = env.length
  sh : ∀ (i : Nat) (d : D), env[i]? = some (Sl.sh d) → ∃ v, σ[i]? = some (some v) ∧ Dp K G v d
  ow : ∀ (i : Nat) (ds : List D), env[i]? = some (Sl.ow ds) → ∃ v, σ[i]? = some (some v) ∧ Dp K G v (.list ds)
  sq : ∀ (i : Nat) (ns : List Int), env[i]? = some (Sl.sq ns) → ∃ a, σ[i]? = some (some (.ref a)) ∧ SqL K G a (ns.map V.int)
theorem SE.mono {K : PySem.W.Frag} {env : En} {σ : L2.St} {G G' : Hp} (s : SE K env σ G) (e : Same G G') : SE K env σ G' := ⟨s.len,
  fun i d h => by obtain ⟨v, h1, h2⟩ := s.sh i d h; exact ⟨v, h1, dp_mono e d v h2⟩, fun i d h => by obtain ⟨v, h1, h2⟩ := s.ow i d h; exact ⟨v, h1, dp_mono e _ v h2⟩, fun i d h => by obtain ⟨a, h1, h2⟩ := s.sq i d h; exact ⟨a, h1, e.seq h2⟩⟩
theorem set_some {α : Type} {l : List α} {i j : Nat} {x y : α} (h : (l.set i x)[j]? = some y) : (i = j ∧ y = x ∧ i < l.length) ∨ (i ≠ j ∧ l[j]? = some y) := by
  by_cases e : i = j
  · subst e
    by_cases hl : i < l.length
    · rw [List.getElem?_set_self hl] at h; exact .inl ⟨rfl, (Option.some.inj h).symm, hl⟩
    · rw [List.getElem?_eq_none (by simpa using hl)] at h; cases h
  · rw [List.getElem?_set_ne e] at h; exact .inr ⟨e, h⟩
theorem SE.set {K : PySem.W.Frag} {env : En} {σ : L2.St} {G : Hp} {v : V} {d : D} (s : SE K env σ G) (i : Nat) (h : Dp K G v d) : SE K (env.set i (.sh d)) (σ.set i (some v)) G := by
  refine ⟨by rw [List.length_set, List.length_set, s.len], fun j e hj => ?_, fun j e hj => ?_, fun j e hj => ?_⟩
  · rcases set_some hj with ⟨rfl, e1, hl⟩ | ⟨ne, hj⟩
    · cases e1; exact ⟨v, List.getElem?_set_self (by rw [s.len]; exact hl), h⟩
    · rw [List.getElem?_set_ne ne]; exact s.sh j e hj
  · rcases set_some hj with ⟨rfl, e1, hl⟩ | ⟨ne, hj⟩
    · cases e1
    · rw [List.getElem?_set_ne ne]; exact s.ow j e hj
  · rcases set_some hj with ⟨rfl, e1, hl⟩ | ⟨ne, hj⟩
    · cases e1
    · rw [List.getElem?_set_ne ne]; exact s.sq j e hj
def wipeE (env : En) : List Nat → En
  | [] => env
  | v :: vs => (wipeE env vs).set v .un
theorem SE.wipe {K : PySem.W.Frag} {env : En} {σ : L2.St} {G : Hp} (s : SE K env σ G) : ∀ vs, SE K (wipeE env vs) (L2.wipe σ vs) G
  | [] => s
  | i :: vs => by
    have t := SE.wipe s vs
    refine ⟨by unfold wipeE L2.wipe; rw [List.length_set, List.length_set, t.len], fun j e hj => ?_, fun j e hj => ?_, fun j e hj => ?_⟩
    · rcases set_some hj with ⟨rfl, e1, hl⟩ | ⟨ne, hj⟩
      · cases e1
      · unfold L2.wipe; rw [List.getElem?_set_ne ne]; exact t.sh j e hj
    · rcases set_some hj with ⟨rfl, e1, hl⟩ | ⟨ne, hj⟩
      · cases e1
      · unfold L2.wipe; rw [List.getElem?_set_ne ne]; exact t.ow j e hj
    · rcases set_some hj with ⟨rfl, e1, hl⟩ | ⟨ne, hj⟩
      · cases e1
      · unfold L2.wipe; rw [List.getElem?_set_ne ne]; exact t.sq j e hj
theorem wipe_get {σ : L2.St} {i : Nat} : ∀ {vs : List Nat}, (L2.wipe σ vs)[i]? = if i ∈ vs then (σ[i]?).map (fun _ => none) else σ[i]?
  | [] => by simp [L2.wipe]
  | v :: vs => by
    unfold L2.wipe
    by_cases e : v = i
    · subst e
      by_cases hl : v < (L2.wipe σ vs).length
      · rw [List.getElem?_set_self hl]
        rw [wipe_length] at hl
        simp [List.getElem?_eq_getElem hl]
      · rw [List.getElem?_eq_none (by simpa using hl)]
        rw [wipe_length] at hl
        simp [List.getElem?_eq_none (Nat.le_of_not_lt hl)]
    · rw [List.getElem?_set_ne e, wipe_get]
      have : i ≠ v := fun z => e z.symm
      simp [this]
theorem wipe_idem {σ : L2.St} {vs : List Nat} : L2.wipe (L2.wipe σ vs) vs = L2.wipe σ vs := by
  apply List.ext_getElem?
  intro i
  rw [wipe_get, wipe_get]
  by_cases h : i ∈ vs
  · simp only [h, if_true]; cases σ[i]? <;> rfl
  · simp only [h, if_false]
theorem wipe_set {σ : L2.St} {vs : List Nat} {i : Nat} {x : Option V} (h : i ∈ vs) : L2.wipe (σ.set i x) vs = L2.wipe σ vs := by
  apply List.ext_getElem?
  intro j
  rw [wipe_get, wipe_get]
  by_cases hj : j ∈ vs
  · simp only [hj, if_true]
    by_cases e : i = j
    · subst e
      by_cases hl : i < σ.length
      · rw [List.getElem?_set_self hl, List.getElem?_eq_getElem hl]; rfl
      · rw [List.getElem?_eq_none (by simpa using hl), List.getElem?_eq_none (by simpa using hl)]
    · rw [List.getElem?_set_ne e]
  · have e : i ≠ j := fun z => hj (z ▸ h)
    simp only [hj, if_false]
    rw [List.getElem?_set_ne e]

/-! ### expressions -/
def DV (K : PySem.W.Frag) (env : En) (t : TE) (r : Option D) : Prop := ∀ σ (G H : Hp) (Q : VK) d, SE K env σ G → Same G H → r = some d → (∀ v G' H', Ext G H G' H' → Dp K G' v d → Q v H') → t σ H Q
def DT (K : PySem.W.Frag) (env : En) (t : TT) (r : Option Bool) : Prop := ∀ σ (G H : Hp) (Q : Bool → Hp → Prop) b, SE K env σ G → Same G H → r = some b → (∀ G' H', Ext G H G' H' → Q b H') → t σ H Q
def DA (K : PySem.W.Frag) (env : En) (t : TA) (r : Option (List D)) : Prop := ∀ σ (G H : Hp) (Q : List V → Hp → Prop) ds, SE K env σ G → Same G H → r = some ds → (∀ vs G' H', Ext G H G' H' → DpAll K G' vs ds → Q vs H') → t σ H Q
def DO (K : PySem.W.Frag) (env : En) (t : TO) (r : Option (Option Int)) : Prop := ∀ σ (G H : Hp) (Q : Option Int → Hp → Prop) o, SE K env σ G → Same G H → r = some o → (∀ G' H', Ext G H G' H' → Q o H') → t σ H Q
/-- a new list, nobody's yet: it stands at p beside G -/
def DL (K : PySem.W.Frag) (env : En) (t : TE) (r : Option (List D)) : Prop := ∀ σ (G H : Hp) (Q : VK) ds, SE K env σ G → Same G H → r = some ds → (∀ p xs G' H', Ext G H G' H' → H p = none → G' p = none → H' p = some (.lst xs) → DpAll K G' xs ds → Q (.ref p) H') → t σ H Q
/-- an operation on two values, on one, on a list of values -/
def OpD (K : PySem.W.Frag) (r : R2) (f : D → D → Option D) : Prop := ∀ (G H : Hp) (Q : VK) x y d v w, Same G H → Dp K G v x → Dp K G w y → f x y = some d → (∀ v G' H', Ext G H G' H' → Dp K G' v d → Q v H') → r v w H Q
def UnD (K : PySem.W.Frag) (r : V → Hp → VK → Prop) (f : D → Option D) : Prop := ∀ (G H : Hp) (Q : VK) x d v, Same G H → Dp K G v x → f x = some d → (∀ v G' H', Ext G H G' H' → Dp K G' v d → Q v H') → r v H Q
def ClD (K : PySem.W.Frag) (r : List V → Hp → VK → Prop) (f : List D → Option D) : Prop := ∀ (G H : Hp) (Q : VK) xs d vs, Same G H → DpAll K G vs xs → f xs = some d → (∀ v G' H', Ext G H G' H' → Dp K G' v d → Q v H') → r vs H Q
def MtD (K : PySem.W.Frag) (r : V → List V → Hp → VK → Prop) (f : D → List D → Option D) : Prop := ∀ (G H : Hp) (Q : VK) x xs d v vs, Same G H → Dp K G v x → DpAll K G vs xs → f x xs = some d → (∀ v G' H', Ext G H G' H' → Dp K G' v d → Q v H') → r v vs H Q
/-- an operation that makes a new list -/
def ClL (K : PySem.W.Frag) (r : List V → Hp → VK → Prop) (f : List D → Option (List D)) : Prop := ∀ (G H : Hp) (Q : VK) xs ds vs, Same G H → DpAll K G vs xs → f xs = some ds → (∀ p ys G' H', Ext G H G' H' → H p = none → G' p = none → H' p = some (.lst ys) → DpAll K G' ys ds → Q (.ref p) H') → r vs H Q
def OpL (K : PySem.W.Frag) (r : R2) (f : D → D → Option (List D)) : Prop := ∀ (G H : Hp) (Q : VK) x y ds v w, Same G H → Dp K G v x → Dp K G w y → f x y = some ds → (∀ p ys G' H', Ext G H G' H' → H p = none → G' p = none → H' p = some (.lst ys) → DpAll K G' ys ds → Q (.ref p) H') → r v w H Q

/-! the mirrors' words -/
def op2 {α : Type} (f : D → D → Option α) (ra rb : Option D) : Option α := ra.bind fun x => rb.bind fun y => f x y
def consO (ra : Option D) (rA : Option (List D)) : Option (List D) := ra.bind fun x => rA.bind fun xs => some (x :: xs)
def newO (rA : Option (List D)) : Option D := rA.bind fun ds => some (.list ds)
def notT (rt : Option Bool) : Option Bool := rt.bind fun b => some (!b)
theorem bind_some {α β : Type} {r : Option α} {f : α → Option β} {d : β} (h : r.bind f = some d) : ∃ a, r = some a ∧ f a = some d := by
  cases r with
  | none => cases h
  | some a => exact ⟨a, rfl, h⟩

section
variable {K : PySem.W.Frag} {env : En} {ta tb tc te : TE} {tt tu : TT} {tA : TA} {ra rb rc : Option D} {rt ru : Option Bool} {rA : Option (List D)} {d : D}
theorem dv_var (i : Nat) {d : D} (h : env[i]? = some (Sl.sh d) := by rfl) : DV K env (tVar i) (some d) := fun σ G H Q x s g e q => by
  cases e
  obtain ⟨v, h1, h2⟩ := s.sh i d h
  exact ⟨v, h1, q v G H (Ext.refl g) h2⟩
/-- an own list, looked at -/
theorem dv_varO (i : Nat) {ds : List D} (h : env[i]? = some (Sl.ow ds) := by rfl) : DV K env (tVar i) (some (.list ds)) := fun σ G H Q x s g e q => by
  cases e
  obtain ⟨v, h1, h2⟩ := s.ow i ds h
  exact ⟨v, h1, q v G H (Ext.refl g) h2⟩
theorem dv_int (i : Int) : DV K env (tC (.int i)) (some (.int i)) := fun σ G H Q x s g e q => by
  cases e; exact q _ G H (Ext.refl g) (.int i)
theorem dv_bl (b : Bool) : DV K env (tC (.bl b)) (some (.bool b)) := fun σ G H Q x s g e q => by
  cases e; exact q _ G H (Ext.refl g) (.bl b)
theorem dv_non : DV K env (tC .non) (some .none) := fun σ G H Q x s g e q => by
  cases e; exact q _ G H (Ext.refl g) .non
theorem dv_str (z : Str) : DV K env (tC (.str z)) (some (.str z)) := fun σ G H Q x s g e q => by
  cases e; exact q _ G H (Ext.refl g) (.str z)
/-- a constant of the module -/
theorem dv_con {v : V} {d : D} (h : ∀ G, Dp K G v d) : DV K env (tC v) (some d) := fun σ G H Q x s g e q => by
  cases e; exact q _ G H (Ext.refl g) (h G)
theorem dv_op {r : R2} {f : D → D → Option D} (ho : OpD K r f) (ha : DV K env ta ra) (hb : DV K env tb rb) : DV K env (tOp r ta tb) (op2 f ra rb) := fun σ G H Q d s g e q => by
  obtain ⟨x, ex, e⟩ := bind_some e
  obtain ⟨y, ey, e⟩ := bind_some e
  refine ha σ G H _ x s g ex fun v G1 H1 E1 h1 => ?_
  refine hb σ G1 H1 _ y (s.mono E1.gg) E1.gh ey fun w G2 H2 E2 h2 => ?_
  exact ho G2 H2 Q x y d v w E2.gh (dp_mono E2.gg x v h1) h2 e fun u G3 H3 E3 h3 => q u G3 H3 ((E1.trans E2).trans E3) h3
theorem dv_un {r : V → Hp → VK → Prop} {f : D → Option D} (ho : UnD K r f) (ha : DV K env ta ra) : DV K env (tUn r ta) (ra.bind f) := fun σ G H Q d s g e q => by
  obtain ⟨x, ex, e⟩ := bind_some e
  refine ha σ G H _ x s g ex fun v G1 H1 E1 h1 => ?_
  exact ho G1 H1 Q x d v E1.gh h1 e fun u G3 H3 E3 h3 => q u G3 H3 (E1.trans E3) h3
theorem dl_op {r : R2} {f : D → D → Option (List D)} (ho : OpL K r f) (ha : DV K env ta ra) (hb : DV K env tb rb) : DL K env (tOp r ta tb) (op2 f ra rb) := fun σ G H Q d s g e q => by
  obtain ⟨x, ex, e⟩ := bind_some e
  obtain ⟨y, ey, e⟩ := bind_some e
  refine ha σ G H _ x s g ex fun v G1 H1 E1 h1 => ?_
  refine hb σ G1 H1 _ y (s.mono E1.gg) E1.gh ey fun w G2 H2 E2 h2 => ?_
  have E12 := E1.trans E2
  exact ho G2 H2 Q x y d v w E2.gh (dp_mono E2.gg x v h1) h2 e fun p ys G3 H3 E3 hp gp hl hd => q p ys G3 H3 (E12.trans E3) (E12.hh.free hp) gp hl hd
/-- a new list that is shared at once -/
theorem dv_new (h : DL K env te rA) : DV K env te (newO rA) := fun σ G H Q d s g e q => by
  obtain ⟨ds, e1, e2⟩ := bind_some e
  cases e2
  refine h σ G H Q ds s g e1 fun p xs G1 H1 E hp gp hl hd => ?_
  refine q (.ref p) (upd G1 p (.lst xs)) H1 ⟨E.gg.trans (same_upd gp), E.hh, fun b o eb => ?_, fun a ha ga => ?_⟩ (.lst (.inl upd_same) (dpa_mono (same_upd gp) ds xs hd))
  · by_cases z : b = p
    · subst z; rw [upd_same] at eb; rw [hl]; exact eb
    · rw [upd_ne z] at eb; exact E.gh b o eb
  · have z : a ≠ p := fun z => ha (by rw [z]; exact hp)
    rw [upd_ne z]; exact E.nw a ha ga
theorem da_nil : DA K env tNil (some []) := fun σ G H Q x s g e q => by
  cases e; exact q [] G H (Ext.refl g) .nil
theorem da_cons (ha : DV K env ta ra) (hr : DA K env tA rA) : DA K env (tCons ta tA) (consO ra rA) := fun σ G H Q d s g e q => by
  obtain ⟨x, ex, e⟩ := bind_some e
  obtain ⟨xs, exs, e⟩ := bind_some e
  cases e
  refine ha σ G H _ x s g ex fun v G1 H1 E1 h1 => ?_
  refine hr σ G1 H1 _ xs (s.mono E1.gg) E1.gh exs fun vs G2 H2 E2 h2 => ?_
  exact q (v :: vs) G2 H2 (E1.trans E2) (.cons (dp_mono E2.gg x v h1) h2)
def szL (ds : List D) : Option (List D) := if ds.length ≤ sizeLine then some ds else none
theorem dl_lst (h : DA K env tA rA) : DL K env (tLst tA) (rA.bind szL) := fun σ G H Q d s g e q => by
  obtain ⟨ds, e1, e2⟩ := bind_some e
  unfold szL at e2
  by_cases hz : ds.length ≤ sizeLine
  · rw [if_pos hz] at e2; cases e2
    refine h σ G H _ d s g e1 fun vs G1 H1 E1 h1 => ⟨by rw [dpa_len h1]; exact hz, fun p hp => ?_⟩
    have gp : G1 p = none := E1.gh.free hp
    exact q p vs G1 _ (E1.trans (Ext.own E1.gh hp)) (E1.hh.free hp) gp upd_same h1
  · rw [if_neg hz] at e2; cases e2
def tupD (ds : List D) : Option D := if ds.length ≤ sizeLine then some (.tuple ds) else none
theorem dv_tup (h : DA K env tA rA) : DV K env (tTup tA) (rA.bind tupD) := fun σ G H Q d s g e q => by
  obtain ⟨ds, e1, e2⟩ := bind_some e
  unfold tupD at e2
  by_cases hz : ds.length ≤ sizeLine
  · rw [if_pos hz] at e2; cases e2
    refine h σ G H _ ds s g e1 fun vs G1 H1 E1 h1 => ⟨by rw [dpa_len h1]; exact hz, fun p hp => ?_⟩
    have gp : G1 p = none := E1.gh.free hp
    exact q (.ref p) (upd G1 p (.tup vs)) _ (E1.trans (Ext.new E1.gh hp)) (.tup (.inl (.inl upd_same)) (dpa_mono (same_upd gp) ds vs h1))
  · rw [if_neg hz] at e2; cases e2
/-! calls of what is built in; of a def -/
theorem dv_cb {r : List V → Hp → VK → Prop} {f : List D → Option D} (ho : ClD K r f) (h : DA K env tA rA) : DV K env (tCB r tA) (rA.bind f) := fun σ G H Q d s g e q => by
  obtain ⟨ds, e1, e2⟩ := bind_some e
  refine h σ G H _ ds s g e1 fun vs G1 H1 E1 h1 => ?_
  exact ho G1 H1 Q ds d vs E1.gh h1 e2 fun u G3 H3 E3 h3 => q u G3 H3 (E1.trans E3) h3
theorem dl_cb {r : List V → Hp → VK → Prop} {f : List D → Option (List D)} (ho : ClL K r f) (h : DA K env tA rA) : DL K env (tCB r tA) (rA.bind f) := fun σ G H Q d s g e q => by
  obtain ⟨ds, e1, e2⟩ := bind_some e
  refine h σ G H _ ds s g e1 fun vs G1 H1 E1 h1 => ?_
  exact ho G1 H1 Q ds d vs E1.gh h1 e2 fun p ys G3 H3 E3 hp gp hl hd => q p ys G3 H3 (E1.trans E3) (E1.hh.free hp) gp hl hd
/-- what a def promises: its mirror's data -/
def spD (K : PySem.W.Frag) (m : List D → Option D) : Sp := fun vs H Q _ => ∃ (G : Hp) (ds : List D) (d : D), Same G H ∧ DpAll K G vs ds ∧ m ds = some d ∧ ∀ v G' H', Ext G H G' H' → Dp K G' v d → Q v H'
theorem dv_call {m : List D → Option D} {E : XK} (h : DA K env tA rA) : DV K env (tCall (spD K m) [] E tA) (rA.bind m) := fun σ G H Q d s g e q => by
  obtain ⟨ds, e1, e2⟩ := bind_some e
  refine h σ G H _ ds s g e1 fun vs G1 H1 E1 h1 => ?_
  refine ⟨G1, ds, d, E1.gh, by rw [List.append_nil]; exact h1, e2, fun u G3 H3 E3 h3 => q u G3 H3 (E1.trans E3) h3⟩
theorem spD_len {m : List D → Option D} {n : Nat} (hm : ∀ ds, ds.length ≠ n → m ds = none) {vs : List V} {H : Hp} {Q : VK} {E : XK} (h : spD K m vs H Q E) : vs.length = n := by
  obtain ⟨G, ds, d, _, ha, e, _⟩ := h
  rw [dpa_len ha]
  by_cases z : ds.length = n
  · exact z
  · rw [hm ds z] at e; cases e
/-! tests and the like -/
def asB : D → Option Bool
  | .bool b => some b
  | _ => none
theorem asB_some {d : D} {b : Bool} (h : asB d = some b) : d = .bool b := by
  cases d <;> first | (cases h; done) | (cases h; rfl)
theorem dt_test (h : DV K env te ra) : DT K env (tTest te) (ra.bind asB) := fun σ G H Q b s g e q => by
  obtain ⟨x, ex, e⟩ := bind_some e
  have := asB_some e; subst this
  refine h σ G H _ _ s g ex fun v G1 H1 E1 h1 => ?_
  cases h1
  exact ⟨b, rfl, q G1 H1 E1⟩
theorem dt_b (h : DV K env te ra) : DT K env (tB te) (ra.bind asB) := dt_test h
def andT (r u : Option Bool) : Option Bool := r.bind fun b => if b = true then u else some false
def orT (r u : Option Bool) : Option Bool := r.bind fun b => if b = true then some true else u
theorem dt_and (h : DT K env tt rt) (k : DT K env tu ru) : DT K env (tAnd tt tu) (andT rt ru) := fun σ G H Q b s g e q => by
  obtain ⟨x, ex, e⟩ := bind_some e
  refine h σ G H _ x s g ex fun G1 H1 E1 => ?_
  cases x with
  | true => rw [if_pos rfl] at e ⊢; exact k σ G1 H1 Q b (s.mono E1.gg) E1.gh e fun G2 H2 E2 => q G2 H2 (E1.trans E2)
  | false => rw [if_neg Bool.false_ne_true] at e ⊢; cases e; exact q G1 H1 E1
theorem dt_or (h : DT K env tt rt) (k : DT K env tu ru) : DT K env (tOr tt tu) (orT rt ru) := fun σ G H Q b s g e q => by
  obtain ⟨x, ex, e⟩ := bind_some e
  refine h σ G H _ x s g ex fun G1 H1 E1 => ?_
  cases x with
  | true => rw [if_pos rfl] at e ⊢; cases e; exact q G1 H1 E1
  | false => rw [if_neg Bool.false_ne_true] at e ⊢; exact k σ G1 H1 Q b (s.mono E1.gg) E1.gh e fun G2 H2 E2 => q G2 H2 (E1.trans E2)
theorem dt_not (h : DT K env tt rt) : DT K env (tNot tt) (notT rt) := fun σ G H Q b s g e q => by
  obtain ⟨x, ex, e⟩ := bind_some e
  cases e
  exact h σ G H _ x s g ex fun G1 H1 E1 => q G1 H1 E1
def andV (r u : Option D) : Option D := (r.bind asB).bind fun b => if b = true then u else some (.bool false)
def orV (r u : Option D) : Option D := (r.bind asB).bind fun b => if b = true then some (.bool true) else u
theorem dv_and (h : DV K env ta ra) (k : DV K env tb rb) : DV K env (tAndV ta tb) (andV ra rb) := fun σ G H Q d s g e q => by
  obtain ⟨b, ex, e⟩ := bind_some e
  obtain ⟨x, ex, eb⟩ := bind_some ex
  have := asB_some eb; subst this
  refine h σ G H _ _ s g ex fun v G1 H1 E1 h1 => ?_
  cases h1
  refine ⟨b, rfl, ?_⟩
  cases b with
  | true => rw [if_pos rfl] at e ⊢; exact k σ G1 H1 Q d (s.mono E1.gg) E1.gh e fun v G2 H2 E2 h2 => q v G2 H2 (E1.trans E2) h2
  | false => rw [if_neg Bool.false_ne_true] at e ⊢; cases e; exact q _ G1 H1 E1 (.bl false)
theorem dv_or (h : DV K env ta ra) (k : DV K env tb rb) : DV K env (tOrV ta tb) (orV ra rb) := fun σ G H Q d s g e q => by
  obtain ⟨b, ex, e⟩ := bind_some e
  obtain ⟨x, ex, eb⟩ := bind_some ex
  have := asB_some eb; subst this
  refine h σ G H _ _ s g ex fun v G1 H1 E1 h1 => ?_
  cases h1
  refine ⟨b, rfl, ?_⟩
  cases b with
  | true => rw [if_pos rfl] at e ⊢; cases e; exact q _ G1 H1 E1 (.bl true)
  | false => rw [if_neg Bool.false_ne_true] at e ⊢; exact k σ G1 H1 Q d (s.mono E1.gg) E1.gh e fun v G2 H2 E2 h2 => q v G2 H2 (E1.trans E2) h2
def notV (ra : Option D) : Option D := (ra.bind asB).bind fun b => some (.bool (!b))
theorem dv_not (h : DV K env ta ra) : DV K env (tNotV ta) (notV ra) := fun σ G H Q d s g e q => by
  obtain ⟨b, ex, e⟩ := bind_some e
  obtain ⟨x, ex, eb⟩ := bind_some ex
  have := asB_some eb; subst this
  cases e
  refine h σ G H _ _ s g ex fun v G1 H1 E1 h1 => ?_
  cases h1
  exact ⟨b, rfl, q _ G1 H1 E1 (.bl _)⟩
def iteV (c : Option Bool) (r u : Option D) : Option D := c.bind fun b => if b = true then r else u
theorem dv_ite (c : DT K env tt rt) (h : DV K env ta ra) (k : DV K env tb rb) : DV K env (tIf tt ta tb) (iteV rt ra rb) := fun σ G H Q d s g e q => by
  obtain ⟨b, eb, e⟩ := bind_some e
  refine c σ G H _ b s g eb fun G1 H1 E1 => ?_
  cases b with
  | true => rw [if_pos rfl] at e ⊢; exact h σ G1 H1 Q d (s.mono E1.gg) E1.gh e fun v G2 H2 E2 h2 => q v G2 H2 (E1.trans E2) h2
  | false => rw [if_neg Bool.false_ne_true] at e ⊢; exact k σ G1 H1 Q d (s.mono E1.gg) E1.gh e fun v G2 H2 E2 h2 => q v G2 H2 (E1.trans E2) h2
/-- a chain a op b op' c -/
def chV (f g : D → D → Option D) (ra rb rc : Option D) : Option D := ra.bind fun x => rb.bind fun y => (f x y).bind fun z => (asB z).bind fun b => if b = true then rc.bind fun w => g y w else some (.bool false)
theorem dv_chain {r r' : R2} {f g : D → D → Option D} (ho : OpD K r f) (ho' : OpD K r' g) (ha : DV K env ta ra) (hb : DV K env tb rb) (hc : DV K env tc rc) : DV K env (tChain r r' ta tb tc) (chV f g ra rb rc) := fun σ G H Q d s gh e q => by
  obtain ⟨x, ex, e1⟩ := bind_some e
  obtain ⟨y, ey, e2⟩ := bind_some e1
  obtain ⟨z, ez, e3⟩ := bind_some e2
  obtain ⟨b, eb, e4⟩ := bind_some e3
  clear e e1 e2 e3
  have := asB_some eb; subst this
  clear eb
  refine ha σ G H _ x s gh ex fun v G1 H1 E1 h1 => ?_
  refine hb σ G1 H1 _ y (s.mono E1.gg) E1.gh ey fun w G2 H2 E2 h2 => ?_
  refine ho G2 H2 _ x y _ v w E2.gh (dp_mono E2.gg x v h1) h2 ez fun u G3 H3 E3 h3 => ?_
  cases h3
  have E13 := (E1.trans E2).trans E3
  refine ⟨b, rfl, ?_⟩
  cases b with
  | true =>
    rw [if_pos rfl] at e4 ⊢
    obtain ⟨w', ew, e5⟩ := bind_some e4
    refine hc σ G3 H3 _ w' (s.mono E13.gg) E3.gh ew fun u' G4 H4 E4 h4 => ?_
    exact ho' G4 H4 Q y w' d w u' E4.gh (dp_mono (E3.gg.trans E4.gg) y w h2) h4 e5 fun v5 G5 H5 E5 h5 => q v5 G5 H5 ((E13.trans E4).trans E5) h5
  | false => rw [if_neg Bool.false_ne_true] at e4 ⊢; cases e4; exact q _ G3 H3 E13 (.bl false)
end
end Dl

set_option Elab.async false
set_option linter.all false
set_option maxRecDepth 100000
set_option maxHeartbeats 2000000
namespace Dl
open PySem PySem.Spec PyProof.Rows L2
/-! ### what is walked -/
structure ItOk (K : PySem.W.Frag) (G : Hp) (J : It) (ds : List D) : Prop where
  go : ∀ (G1 H1 : Hp) (i : Nat), Same G G1 → Same G1 H1 → i < ds.length → J.go i H1
  yl : ∀ (G1 H1 : Hp) (i : Nat) (x : V) (H2 : Hp) (d : D), Same G G1 → Same G1 H1 → ds[i]? = some d → J.yld i H1 x H2 → ∃ G2, Ext G1 H1 G2 H2 ∧ Dp K G2 x d
  stop : ∀ (G1 H1 : Hp) (i : Nat), Same G G1 → Same G1 H1 → ds.length ≤ i → J.stop i H1
def DI (K : PySem.W.Frag) (env : En) (w : TI) (r : Option (List D)) : Prop := ∀ σ (G H : Hp) (R : It → Hp → Prop) ds, SE K env σ G → Same G H → r = some ds → (∀ J G' H', Ext G H G' H' → ItOk K G' J ds → R J H') → w σ H R
def asL : D → Option (List D)
  | .list ds => some ds
  | _ => none
def asU : D → Option (List D)
  | .tuple ds => some ds
  | _ => none
theorem asL_some {d : D} {ds : List D} (h : asL d = some ds) : d = .list ds := by
  cases d <;> first | (cases h; done) | (cases h; rfl)
theorem asU_some {d : D} {ds : List D} (h : asU d = some ds) : d = .tuple ds := by
  cases d <;> first | (cases h; done) | (cases h; rfl)
theorem it_list {K : PySem.W.Frag} {G : Hp} {a : Addr} {xs : List V} {ds : List D} (hs : SqL K G a xs) (hd : DpAll K G xs ds) : ItOk K G (Itl K a) ds where
  go := fun G1 H1 i g h hi => by
    have hl : i < xs.length := by rw [dpa_len hd]; exact hi
    exact ⟨xs, xs[i], h.seq (g.seq hs), List.getElem?_eq_getElem hl⟩
  yl := fun G1 H1 i x H2 d g h hi hy => by
    obtain ⟨rfl, hx⟩ := hy
    exact ⟨G1, Ext.refl h, dp_mono g d x (dpa_get' hd hi (hx xs (h.seq (g.seq hs))))⟩
  stop := fun G1 H1 i g h hi => ⟨xs, h.seq (g.seq hs), by rw [dpa_len hd]; exact hi⟩
theorem it_tup {K : PySem.W.Frag} {G : Hp} {a : Addr} {xs : List V} {ds : List D} (hs : SqT K G a xs) (hd : DpAll K G xs ds) : ItOk K G (Itt K a) ds where
  go := fun G1 H1 i g h hi => by
    have hl : i < xs.length := by rw [dpa_len hd]; exact hi
    exact ⟨xs, xs[i], sqt_mono h (sqt_mono g hs), List.getElem?_eq_getElem hl⟩
  yl := fun G1 H1 i x H2 d g h hi hy => by
    obtain ⟨rfl, hx⟩ := hy
    exact ⟨G1, Ext.refl h, dp_mono g d x (dpa_get' hd hi (hx xs (sqt_mono h (sqt_mono g hs))))⟩
  stop := fun G1 H1 i g h hi => ⟨xs, sqt_mono h (sqt_mono g hs), by rw [dpa_len hd]; exact hi⟩
def rngD (lo : Int) (n : Nat) : List D := (List.range n).map fun (k : Nat) => .int (lo + k)
theorem it_rng {K : PySem.W.Frag} {G : Hp} {lo : Int} {n : Nat} : ItOk K G (Itr lo n) (rngD lo n) where
  go := fun G1 H1 i g h hi => by
    unfold rngD at hi
    rw [List.length_map, List.length_range] at hi; exact hi
  yl := fun G1 H1 i x H2 d g h hi hy => by
    obtain ⟨rfl, hx⟩ := hy
    unfold rngD at hi
    rw [List.getElem?_map] at hi
    by_cases hl : i < n
    · rw [List.getElem?_range hl] at hi
      cases hi; rw [hx]
      exact ⟨G1, Ext.refl h, .int _⟩
    · rw [List.getElem?_eq_none (by rw [List.length_range]; omega)] at hi; cases hi
  stop := fun G1 H1 i g h hi => by
    unfold rngD at hi
    rw [List.length_map, List.length_range] at hi; exact hi
def strD (z : Str) : List D := z.cps.toList.map fun c => .str ⟨#[c]⟩
theorem it_str {K : PySem.W.Frag} {G : Hp} {z : Str} : ItOk K G (Its z) (strD z) where
  go := fun G1 H1 i g h hi => by
    unfold strD at hi
    rw [List.length_map, Array.length_toList] at hi; exact hi
  yl := fun G1 H1 i x H2 d g h hi hy => by
    obtain ⟨rfl, c, hc, rfl⟩ := hy
    unfold strD at hi
    rw [List.getElem?_map] at hi
    rw [← Array.getElem?_toList] at hc
    rw [hc] at hi
    cases hi
    exact ⟨G1, Ext.refl h, .str _⟩
  stop := fun G1 H1 i g h hi => by
    unfold strD at hi
    rw [List.length_map, Array.length_toList] at hi; exact hi
def enumD (k : Nat) : List D → List D
  | [] => []
  | d :: ds => .tuple [.int k, d] :: enumD (k + 1) ds
theorem enumD_len : ∀ (ds : List D) (k : Nat), (enumD k ds).length = ds.length
  | [], _ => rfl
  | _ :: ds, k => congrArg (· + 1) (enumD_len ds (k + 1))
theorem enumD_get : ∀ (ds : List D) (k i : Nat), (enumD k ds)[i]? = (ds[i]?).map fun d => .tuple [.int ((k + i : Nat) : Int), d]
  | [], _, _ => by simp [enumD]
  | d :: ds, k, 0 => by simp [enumD]
  | d :: ds, k, i + 1 => by
    simp only [enumD, List.getElem?_cons_succ]
    rw [enumD_get ds (k + 1) i]
    have : k + 1 + i = k + (i + 1) := by omega
    rw [this]
theorem it_enum {K : PySem.W.Frag} {G : Hp} {a : Addr} {xs : List V} {ds : List D} (hs : SqL K G a xs) (hd : DpAll K G xs ds) : ItOk K G (Ite K a) (enumD 0 ds) where
  go := fun G1 H1 i g h hi => by
    rw [enumD_len] at hi
    have hl : i < xs.length := by rw [dpa_len hd]; exact hi
    exact ⟨xs, xs[i], h.seq (g.seq hs), List.getElem?_eq_getElem hl⟩
  yl := fun G1 H1 i x H2 d g h hi hy => by
    obtain ⟨T, y, rfl, hT, rfl, hx⟩ := hy
    rw [enumD_get] at hi
    cases e : ds[i]? with
    | none => rw [e] at hi; cases hi
    | some dd =>
      rw [e] at hi; cases hi
      have ex := hx xs (h.seq (g.seq hs))
      have gT : G1 T = none := h.free hT
      refine ⟨_, Ext.new h hT, .tup (.inl (.inl upd_same)) (.cons ?_ (.cons (dp_mono (g.trans (same_upd gT)) dd y (dpa_get' hd e ex)) .nil))⟩
      rw [Nat.zero_add]; exact .int _
  stop := fun G1 H1 i g h hi => by
    rw [enumD_len] at hi
    exact ⟨xs, h.seq (g.seq hs), by rw [dpa_len hd]; exact hi⟩
def zipD : List D → List D → List D
  | d :: ds, e :: es => .tuple [d, e] :: zipD ds es
  | _, _ => []
theorem zipD_get : ∀ (ds es : List D) (i : Nat), (zipD ds es)[i]? = (ds[i]?).bind fun d => (es[i]?).map fun e => .tuple [d, e]
  | [], _, _ => by simp [zipD]
  | d :: ds, [], i => by cases i <;> simp [zipD]
  | d :: ds, e :: es, 0 => by simp [zipD]
  | d :: ds, e :: es, i + 1 => by
    simp only [zipD, List.getElem?_cons_succ]
    exact zipD_get ds es i
theorem zipD_len : ∀ (ds es : List D), (zipD ds es).length = min ds.length es.length
  | [], _ => by simp [zipD]
  | _ :: _, [] => by simp [zipD]
  | d :: ds, e :: es => by
    simp only [zipD, List.length_cons, zipD_len ds es]; omega
theorem it_zip {K : PySem.W.Frag} {G : Hp} {a b : Addr} {xs ys : List V} {ds es : List D} (hs : SqL K G a xs) (hd : DpAll K G xs ds) (hs2 : SqL K G b ys) (hd2 : DpAll K G ys es) : ItOk K G (Itz K a b) (zipD ds es) where
  go := fun G1 H1 i g h hi => by
    rw [zipD_len] at hi
    have h1 : i < xs.length := by rw [dpa_len hd]; omega
    have h2 : i < ys.length := by rw [dpa_len hd2]; omega
    exact ⟨xs, ys, xs[i], ys[i], h.seq (g.seq hs), h.seq (g.seq hs2), List.getElem?_eq_getElem h1, List.getElem?_eq_getElem h2⟩
  yl := fun G1 H1 i x H2 d g h hi hy => by
    obtain ⟨T, y, z, rfl, hT, rfl, hx, hx2⟩ := hy
    rw [zipD_get] at hi
    obtain ⟨d1, e1, hi⟩ := bind_some hi
    cases e2 : es[i]? with
    | none => rw [e2] at hi; cases hi
    | some d2 =>
      rw [e2] at hi; cases hi
      have ex := hx xs (h.seq (g.seq hs))
      have ex2 := hx2 ys (h.seq (g.seq hs2))
      have gT : G1 T = none := h.free hT
      have gm := g.trans (same_upd (o := HO.tup [y, z]) gT)
      exact ⟨_, Ext.new h hT, .tup (.inl (.inl upd_same)) (.cons (dp_mono gm d1 y (dpa_get' hd e1 ex)) (.cons (dp_mono gm d2 z (dpa_get' hd2 e2 ex2)) .nil))⟩
  stop := fun G1 H1 i g h hi => by
    rw [zipD_len] at hi
    refine ⟨xs, ys, h.seq (g.seq hs), h.seq (g.seq hs2), ?_⟩
    rw [dpa_len hd, dpa_len hd2]; omega
/-- within 2^62 either way (by Nat.ble: nothing is counted down) -/
def okR : Int → Bool
  | .ofNat n => Nat.ble n 4611686018427387903
  | .negSucc n => Nat.ble n 4611686018427387902
theorem okR_of {i : Int} (h : okR i = true) : -(2 ^ 62) ≤ i ∧ i < 2 ^ 62 := by
  cases i with
  | ofNat n =>
    have := Nat.le_of_ble_eq_true h
    show -(2 ^ 62) ≤ (n : Int) ∧ (n : Int) < 2 ^ 62
    omega
  | negSucc n => have := Nat.le_of_ble_eq_true h; omega
theorem okR_by {i : Int} (h : -1000000000000 ≤ i ∧ i ≤ 1000000000000) : okR i = true := by
  cases i with
  | ofNat n =>
    have h' : -1000000000000 ≤ (n : Int) ∧ (n : Int) ≤ 1000000000000 := h
    exact Nat.ble_eq_true_of_le (by omega)
  | negSucc n => exact Nat.ble_eq_true_of_le (by omega)
def rng1D : List D → Option (List D)
  | [.int j] => if okR j = true then some (rngD 0 j.toNat) else none
  | _ => none
def rng2D : List D → Option (List D)
  | [.int i, .int j] => if (okR i && okR j) = true then some (rngD i (j - i).toNat) else none
  | _ => none
def asS : D → Option Str
  | .str z => some z
  | _ => none
def strO (ra : Option D) : Option (List D) := (ra.bind asS).bind fun z => some (strD z)
def enum1D : List D → Option (List D)
  | [.list ds] => some (enumD 0 ds)
  | _ => none
def zip2D : List D → Option (List D)
  | [.list ds, .list es] => some (zipD ds es)
  | _ => none
section
variable {K : PySem.W.Frag} {env : En} {te : TE} {tA : TA} {ra : Option D} {rA : Option (List D)}
theorem di_list (h : DV K env te ra) : DI K env (iList K te) (ra.bind asL) := fun σ G H R ds s g e q => by
  obtain ⟨x, ex, e⟩ := bind_some e
  have := asL_some e; subst this
  refine h σ G H _ _ s g ex fun v G1 H1 E1 h1 => ?_
  cases h1 with
  | lst hs hd => exact ⟨_, rfl, ⟨_, .inl (rd_mono E1.gh hs)⟩, q _ G1 H1 E1 (it_list (.inl hs) hd)⟩
/-- over the script -/
theorem di_scr (i : Nat) {ns : List Int} (h : env[i]? = some (Sl.sq ns) := by rfl) : DI K env (iList K (tVar i)) (some (ns.map PyData.int)) := fun σ G H R ds s g e q => by
  cases e
  obtain ⟨a, h1, h2⟩ := s.sq i ns h
  exact ⟨.ref a, h1, a, rfl, ⟨_, g.seq h2⟩, q _ G H (Ext.refl g) (it_list h2 (dpa_ints ns))⟩
theorem di_tup (h : DV K env te ra) : DI K env (iTup K te) (ra.bind asU) := fun σ G H R ds s g e q => by
  obtain ⟨x, ex, e⟩ := bind_some e
  have := asU_some e; subst this
  refine h σ G H _ _ s g ex fun v G1 H1 E1 h1 => ?_
  cases h1 with
  | tup hs hd => exact ⟨_, rfl, ⟨_, sqt_mono E1.gh hs⟩, q _ G1 H1 E1 (it_tup hs hd)⟩
theorem di_str (h : DV K env te ra) : DI K env (iStr te) (strO ra) := fun σ G H R ds s g e q => by
  obtain ⟨z, ez, e⟩ := bind_some e
  obtain ⟨x, ex, ez⟩ := bind_some ez
  have : x = .str z := by cases x <;> first | (cases ez; done) | (cases ez; rfl)
  subst this; cases e
  refine h σ G H _ _ s g ex fun v G1 H1 E1 h1 => ?_
  cases h1
  exact ⟨z, rfl, q _ G1 H1 E1 it_str⟩
theorem di_rng1 (h : DA K env tA rA) : DI K env (iRng1 tA) (rA.bind rng1D) := fun σ G H R ds s g e q => by
  obtain ⟨x, ex, e⟩ := bind_some e
  refine h σ G H _ _ s g ex fun vs G1 H1 E1 h1 => ?_
  match x, h1, e with
  | [.int j], h1, e =>
    replace e : (if okR j = true then some (rngD 0 j.toNat) else none) = some ds := e
    by_cases hb : okR j = true
    · rw [if_pos hb] at e; cases e
      replace hb := okR_of hb
      cases h1 with
      | cons r t => cases r; cases t; exact ⟨j, rfl, hb.1, hb.2, q _ G1 H1 E1 it_rng⟩
    · rw [if_neg hb] at e; cases e
theorem di_rng2 (h : DA K env tA rA) : DI K env (iRng2 tA) (rA.bind rng2D) := fun σ G H R ds s g e q => by
  obtain ⟨x, ex, e⟩ := bind_some e
  refine h σ G H _ _ s g ex fun vs G1 H1 E1 h1 => ?_
  match x, h1, e with
  | [.int i, .int j], h1, e =>
    replace e : (if (okR i && okR j) = true then some (rngD i (j - i).toNat) else none) = some ds := e
    by_cases hb : (okR i && okR j) = true
    · rw [if_pos hb] at e; cases e
      rw [Bool.and_eq_true] at hb
      replace hb : -(2 ^ 62) ≤ i ∧ i < 2 ^ 62 ∧ -(2 ^ 62) ≤ j ∧ j < 2 ^ 62 := ⟨(okR_of hb.1).1, (okR_of hb.1).2, okR_of hb.2⟩
      cases h1 with
      | cons r t => cases r; cases t with
        | cons r t => cases r; cases t; exact ⟨i, j, rfl, hb, q _ G1 H1 E1 it_rng⟩
    · rw [if_neg hb] at e; cases e
theorem di_enum (h : DA K env tA rA) : DI K env (iEnum K tA) (rA.bind enum1D) := fun σ G H R ds s g e q => by
  obtain ⟨x, ex, e⟩ := bind_some e
  refine h σ G H _ _ s g ex fun vs G1 H1 E1 h1 => ?_
  match x, h1, e with
  | [.list es], h1, e =>
    cases e
    cases h1 with
    | cons r t => cases t; cases r with
      | lst hs hd => exact ⟨_, _, rfl, .inl (rd_mono E1.gh hs), q _ G1 H1 E1 (it_enum (.inl hs) hd)⟩
theorem di_zip (h : DA K env tA rA) : DI K env (iZip K tA) (rA.bind zip2D) := fun σ G H R ds s g e q => by
  obtain ⟨x, ex, e⟩ := bind_some e
  refine h σ G H _ _ s g ex fun vs G1 H1 E1 h1 => ?_
  match x, h1, e with
  | [.list es, .list fs], h1, e =>
    cases e
    cases h1 with
    | cons r t => cases r with
      | lst hs hd => cases t with
        | cons r t => cases t; cases r with
          | lst hs2 hd2 => exact ⟨_, _, _, _, rfl, .inl (rd_mono E1.gh hs), .inl (rd_mono E1.gh hs2), q _ G1 H1 E1 (it_zip (.inl hs) hd (.inl hs2) hd2)⟩
end
/-! ### targets: what a for binds -/
/-- g binds the data x: only slots of vs change -/
def BG (K : PySem.W.Frag) (g : TG) (vs : List Nat) (b : En → D → Option En) : Prop :=
  ∀ (env env' : En) (σ : L2.St) (G H : Hp) (v : V) (x : D) (Q : L2.St → Hp → Prop), SE K env σ G → Same G H → Dp K G v x → b env x = some env' →
    (∀ σ2, SE K env' σ2 G → (∀ ws, (∀ i ∈ vs, i ∈ ws) → L2.wipe σ2 ws = L2.wipe σ ws) → (∀ i, i ∉ vs → σ2[i]? = σ[i]? ∧ env'[i]? = env[i]?) → Q σ2 H) → g v σ H Q
def BGs (K : PySem.W.Frag) (g : TGs) (vs : List Nat) (b : En → List D → Option En) : Prop :=
  ∀ (env env' : En) (σ : L2.St) (G H : Hp) (us : List V) (xs : List D) (Q : L2.St → Hp → Prop), SE K env σ G → Same G H → DpAll K G us xs → b env xs = some env' →
    (∀ σ2, SE K env' σ2 G → (∀ ws, (∀ i ∈ vs, i ∈ ws) → L2.wipe σ2 ws = L2.wipe σ ws) → (∀ i, i ∉ vs → σ2[i]? = σ[i]? ∧ env'[i]? = env[i]?) → Q σ2 H) → g us σ H Q
theorem bg_name {K : PySem.W.Frag} (i : Nat) : BG K (gName i) [i] (fun env x => some (env.set i (.sh x))) := fun env env' σ G H v x Q s g h e q => by
  cases e
  refine q _ (s.set i h) (fun ws hw => wipe_set (hw i (by simp))) fun j hj => ?_
  have : i ≠ j := fun z => hj (by simp [z])
  exact ⟨List.getElem?_set_ne this, List.getElem?_set_ne this⟩
def bNil : En → List D → Option En
  | env, [] => some env
  | _, _ => none
def bCons (b : En → D → Option En) (c : En → List D → Option En) : En → List D → Option En
  | env, x :: xs => (b env x).bind fun env' => c env' xs
  | _, [] => none
def bTup (n : Nat) (c : En → List D → Option En) : En → D → Option En
  | env, .tuple xs => if xs.length = n then c env xs else none
  | _, _ => none
theorem bgs_nil {K : PySem.W.Frag} : BGs K gNil [] bNil := fun env env' σ G H us xs Q s g h e q => by
  match xs, h, e with
  | [], h, e =>
    cases e; cases h
    exact ⟨rfl, q σ s (fun _ _ => rfl) fun _ _ => ⟨rfl, rfl⟩⟩
theorem bgs_cons {K : PySem.W.Frag} {t : TG} {u : TGs} {vs ws : List Nat} {b : En → D → Option En} {c : En → List D → Option En} (hb : BG K t vs b) (hc : BGs K u ws c) : BGs K (gCons t u) (vs ++ ws) (bCons b c) := fun env env' σ G H us xs Q s g h e q => by
  match xs, h, e with
  | x :: xs, .cons (v := v) (vs := us) r t', e =>
    obtain ⟨env1, e1, e2⟩ := bind_some e
    refine ⟨v, us, rfl, hb env env1 σ G H v x _ s g r e1 fun σ2 s2 w2 f2 => ?_⟩
    refine hc env1 env' σ2 G H us xs Q s2 g t' e2 fun σ3 s3 w3 f3 => q σ3 s3 (fun zs hz => (w3 zs fun i hi => hz i (List.mem_append_right _ hi)).trans (w2 zs fun i hi => hz i (List.mem_append_left _ hi))) fun i hi => ?_
    rw [List.mem_append, not_or] at hi
    exact ⟨(f3 i hi.2).1.trans (f2 i hi.1).1, (f3 i hi.2).2.trans (f2 i hi.1).2⟩
theorem bg_tup {K : PySem.W.Frag} {n : Nat} {t : TGs} {vs : List Nat} {c : En → List D → Option En} (h : BGs K t vs c) : BG K (gTup K n t) vs (bTup n c) := fun env env' σ G H v x Q s g r e q => by
  match x, r, e with
  | .tuple xs, r, e =>
    unfold bTup at e
    by_cases hl : xs.length = n
    · simp only [hl, if_true] at e
      cases r with
      | tup hs hd => exact ⟨_, _, rfl, sqt_mono g hs, by rw [dpa_len hd]; exact hl, h env env' σ G H _ xs Q s g hd e q⟩
    · simp only [hl, if_false] at e; cases e
/-! ### comprehensions -/
def lcD (c : D → Option Bool) (f : D → Option D) : List D → Option (List D)
  | [] => some []
  | x :: xs => (c x).bind fun b => if b = true then (f x).bind fun y => (lcD c f xs).bind fun ys => some (y :: ys) else lcD c f xs
def lcZ (c : D → Option Bool) (f : D → Option D) (xs : List D) : Option (List D) := if xs.length ≤ sizeLine then lcD c f xs else none
theorem drop_cons {α : Type} {l : List α} {i : Nat} (h : i < l.length) : l.drop i = l[i] :: l.drop (i + 1) := List.drop_eq_getElem_cons h
theorem dl_lc {K : PySem.W.Frag} {env : En} {wi : TI} {g : TG} {tt : TT} {te : TE} {vs ts : List Nat} {rI : Option (List D)} {b : En → D → Option En} {c : D → Option Bool} {f : D → Option D}
    (hi : DI K env wi rI) (hg : BG K g ts b) (hts : ∀ i ∈ ts, i ∈ vs)
    (hc : ∀ x env', b (wipeE env vs) x = some env' → DT K env' tt (c x)) (hf : ∀ x env', b (wipeE env vs) x = some env' → DV K env' te (f x)) (hb : ∀ x y, c x = some y → ∃ env', b (wipeE env vs) x = some env') :
    DL K env (tLc wi g tt te vs) (rI.bind (lcZ c f)) := fun σ G H Q out s gh e q => by
  obtain ⟨ds, e1, e2⟩ := bind_some e
  unfold lcZ at e2
  by_cases hz : ds.length ≤ sizeLine
  · rw [if_pos hz] at e2
    refine hi σ G H _ ds s gh e1 fun J G1 H1 E1 ok => ?_
    intro Dd hD
    have gD : G1 Dd = none := E1.gh.free hD
    refine ⟨fun i m H2 => i ≤ ds.length ∧ m = ds.length - i ∧ ∃ (G2 : Hp) (acc : List V) (as rest : List D), Ext G1 H1 G2 H2 ∧ H2 Dd = some (.lst acc) ∧ G2 Dd = none ∧ DpAll K G2 acc as ∧ as.length ≤ i ∧ lcD c f (ds.drop i) = some rest ∧ as ++ rest = out,
      ⟨ds.length, Nat.zero_le _, by omega, G1, [], [], out, Ext.own E1.gh hD, upd_same, gD, .nil, Nat.le_refl _, by simpa using e2, rfl⟩, ?_⟩
    rintro i m H2 ⟨hi2, rfl, G2, acc, as, rest, E2, hacc, gD2, hd, hl, hr, ho⟩
    by_cases hlt : i < ds.length
    · right
      refine ⟨ok.go G2 H2 i E2.gg E2.gh hlt, fun H3 => ∃ m', m' < ds.length - i ∧ (i + 1 ≤ ds.length ∧ m' = ds.length - (i + 1) ∧ ∃ (G2 : Hp) (acc : List V) (as rest : List D), Ext G1 H1 G2 H3 ∧ H3 Dd = some (.lst acc) ∧ G2 Dd = none ∧ DpAll K G2 acc as ∧ as.length ≤ i + 1 ∧ lcD c f (ds.drop (i + 1)) = some rest ∧ as ++ rest = out), fun H3 h => h, fun x H3 hy => ?_⟩
      have hget : ds[i]? = some ds[i] := List.getElem?_eq_getElem hlt
      obtain ⟨G3, E3, hx⟩ := ok.yl G2 H2 i x H3 ds[i] E2.gg E2.gh hget hy
      rw [drop_cons hlt] at hr
      unfold lcD at hr
      obtain ⟨bb, ec, hr⟩ := bind_some hr
      obtain ⟨env', eb⟩ := hb ds[i] bb ec
      have hH3 : H3 Dd = some (.lst acc) := E3.hh _ _ hacc
      have gD3 : G3 Dd = none := E3.nw Dd (by rw [hacc]; exact fun z => by cases z) gD2
      refine hg (wipeE env vs) env' (L2.wipe σ vs) G3 H3 x ds[i] _ ((s.wipe vs).mono ((E1.gg.trans E2.gg).trans E3.gg)) E3.gh hx eb fun σ2 s2 w2 _ => ?_
      refine ⟨(w2 vs hts).trans wipe_idem, ?_⟩
      refine hc ds[i] env' eb σ2 G3 H3 _ bb s2 E3.gh ec fun G4 H4 E4 => ?_
      have hH4 : H4 Dd = some (.lst acc) := E4.hh _ _ hH3
      have gD4 : G4 Dd = none := E4.nw Dd (by rw [hH3]; exact fun z => by cases z) gD3
      have E14 := (E2.trans E3).trans E4
      cases bb with
      | true =>
        rw [if_pos rfl] at hr ⊢
        obtain ⟨y, ey, hr⟩ := bind_some hr
        obtain ⟨ys, eys, hr⟩ := bind_some hr
        cases hr
        refine hf ds[i] env' eb σ2 G4 H4 _ y (s2.mono E4.gg) E4.gh ey fun v G5 H5 E5 h5 => ?_
        have hH5 : H5 Dd = some (.lst acc) := E5.hh _ _ hH4
        have gD5 : G5 Dd = none := E5.nw Dd (by rw [hH4]; exact fun z => by cases z) gD4
        have E15 := E14.trans E5
        have hlen := dpa_len hd
        refine ⟨acc, hH5, by omega, ds.length - (i + 1), by omega, by omega, rfl, G5, acc ++ [v], as ++ [y], ys, ?_, upd_same, gD5, dpa_app (dpa_mono ((E3.gg.trans E4.gg).trans E5.gg) _ _ hd) (dpa_one h5), ?_, eys, by rw [← ho, List.append_assoc]; rfl⟩
        · refine ⟨E15.gg, fun bq o eq => ?_, fun bq o eq => ?_, E15.nw⟩
          · have : bq ≠ Dd := ne_of_none eq hD
            rw [upd_ne this]; exact E15.hh bq o eq
          · have : bq ≠ Dd := ne_of_none eq gD5
            rw [upd_ne this]; exact E15.gh bq o eq
        · rw [List.length_append]; simp; omega
      | false =>
        rw [if_neg Bool.false_ne_true] at hr ⊢
        exact ⟨ds.length - (i + 1), by omega, by omega, rfl, G4, acc, as, rest, E14, hH4, gD4, dpa_mono (E3.gg.trans E4.gg) _ _ hd, by omega, hr, ho⟩
    · left
      have ei : i = ds.length := by omega
      subst ei
      rw [List.drop_length] at hr
      cases hr
      rw [List.append_nil] at ho
      subst ho
      exact ⟨ok.stop G2 H2 _ E2.gg E2.gh (Nat.le_refl _), q Dd acc G2 H2 (E1.trans E2) (E1.hh.free hD) gD2 hacc hd⟩
  · rw [if_neg hz] at e2; cases e2
/-- the target a name -/
theorem dl_lcN {K : PySem.W.Frag} {env : En} {wi : TI} {tt : TT} {te : TE} {vs : List Nat} {j : Nat} {rI : Option (List D)} {c : D → Option Bool} {f : D → Option D}
    (hi : DI K env wi rI) (hc : ∀ x, DT K ((wipeE env vs).set j (.sh x)) tt (c x)) (hf : ∀ x, DV K ((wipeE env vs).set j (.sh x)) te (f x)) (hts : j ∈ vs := by decide) :
    DL K env (tLc wi (gName j) tt te vs) (rI.bind (lcZ c f)) :=
  dl_lc hi (bg_name j) (by intro i hi; simp at hi; subst hi; exact hts) (fun x env' e => by cases e; exact hc x) (fun x env' e => by cases e; exact hf x) fun x y _ => ⟨_, rfl⟩
theorem dt_yes {K : PySem.W.Frag} {env : En} : DT K env tYes (some true) := fun σ G H Q b s g e q => by
  cases e; exact q G H (Ext.refl g)
end Dl

set_option Elab.async false
set_option linter.all false
set_option maxRecDepth 100000
set_option maxHeartbeats 2000000
namespace Dl
open PySem PySem.Spec PyProof.Rows L2
/-! ### statements -/
/-- the state: shared data on G (base G0, at least B), own lists in H alone -/
structure SS (K : PySem.W.Frag) (env : En) (σ : L2.St) (G0 H0 B : Hp) (G H : Hp) : Prop where
  ext : Ext G0 H0 G H
  bg : Same B G
  len : σ.length = env.length
  sh : ∀ (i : Nat) (d : D), env[i]? = some (Sl.sh d) → ∃ v, σ[i]? = some (some v) ∧ Dp K G v d
  ow : ∀ (i : Nat) (ds : List D), env[i]? = some (Sl.ow ds) → ∃ l xs, σ[i]? = some (some (.ref l)) ∧ H l = some (.lst xs) ∧ G l = none ∧ H0 l = none ∧ DpAll K G xs ds
  sq : ∀ (i : Nat) (ns : List Int), env[i]? = some (Sl.sq ns) → ∃ a, σ[i]? = some (some (.ref a)) ∧ SqL K G a (ns.map V.int)
  di : ∀ (i j : Nat) (ds es : List D) (l : Addr), i ≠ j → env[i]? = some (Sl.ow ds) → env[j]? = some (Sl.ow es) → σ[i]? = some (some (.ref l)) → σ[j]? ≠ some (some (.ref l))
inductive Out (α β : Type) where
  | nx (a : α)
  | rt (d : D)
  | bk (b : β)
  | ct (b : β)
  | no
def Post (K : PySem.W.Frag) {α β : Type} (en : α → En) (eb : β → En) (T : Ends) (G0 H0 B : Hp) : Out α β → Prop
  | .nx a => ∀ σ G H, SS K (en a) σ G0 H0 B G H → T.nx σ H
  | .rt d => ∀ v G H, Ext G0 H0 G H → Dp K G v d → T.rt v H
  | .bk b => ∀ σ G H, SS K (eb b) σ G0 H0 B G H → T.bk σ H
  | .ct b => ∀ σ G H, SS K (eb b) σ G0 H0 B G H → T.ct σ H
  | .no => False
/-- the block t, begun with env, comes to o -/
def DS (K : PySem.W.Frag) (env : En) (t : TS) {α β : Type} (en : α → En) (eb : β → En) (o : Out α β) : Prop :=
  ∀ σ (G0 H0 B G H : Hp) (T : Ends), SS K env σ G0 H0 B G H → Post K en eb T G0 H0 B o → t T σ H
def Out.bind {α β γ : Type} (o : Out α β) (k : α → Out γ β) : Out γ β := match o with
  | .nx a => k a
  | .rt d => .rt d
  | .bk b => .bk b
  | .ct b => .ct b
  | .no => .no
def toO {α β : Type} (r : Option α) : Out α β := match r with
  | some a => .nx a
  | none => .no
def toR {α β : Type} (r : Option D) : Out α β := match r with
  | some a => .rt a
  | none => .no
def ifO {α β : Type} (c : Option Bool) (o u : Out α β) : Out α β := match c with
  | some true => o
  | some false => u
  | none => .no
def Out.run {α β : Type} (o : Out α β) : Option D := match o with
  | .nx _ => some .none
  | .rt d => some d
  | _ => none
/-! #### weaker states -/
inductive LeS : Sl → Sl → Prop
  | refl (s : Sl) : LeS s s
  | un (s : Sl) : LeS .un s
  | frz (ds : List D) : LeS (.sh (.list ds)) (.ow ds)
inductive Le : En → En → Prop
  | nil : Le [] []
  | cons {a b : Sl} {r s : En} : LeS a b → Le r s → Le (a :: r) (b :: s)
theorem Le.refl : ∀ e : En, Le e e
  | [] => .nil
  | a :: r => .cons (.refl a) (Le.refl r)
theorem Le.get : ∀ {r s : En} {i : Nat} {a : Sl}, Le r s → r[i]? = some a → ∃ b, s[i]? = some b ∧ LeS a b
  | _, _, _, _, .nil, h => by simp at h
  | _, _, 0, _, .cons q _, h => by simp at h; subst h; exact ⟨_, rfl, q⟩
  | _, _, i + 1, a, .cons _ t, h => by
    obtain ⟨b, h1, h2⟩ := Le.get (i := i) (a := a) t (by simpa using h)
    exact ⟨b, by simpa using h1, h2⟩
theorem Le.len : ∀ {r s : En}, Le r s → r.length = s.length
  | _, _, .nil => rfl
  | _, _, .cons _ t => congrArg (· + 1) (Le.len t)
section
variable {K : PySem.W.Frag} {env env' : En} {σ : L2.St} {G0 H0 B G H G' H' : Hp}
/-- the heap grows: what is shared and what is own stay -/
theorem SS.ext' (s : SS K env σ G0 H0 B G H) (E : Ext G H G' H') : SS K env σ G0 H0 B G' H' := by
  refine ⟨s.ext.trans E, s.bg.trans E.gg, s.len, fun i d h => ?_, fun i ds h => ?_, fun i ns h => ?_, s.di⟩
  · obtain ⟨v, h1, h2⟩ := s.sh i d h
    exact ⟨v, h1, dp_mono E.gg d v h2⟩
  · obtain ⟨l, xs, h1, h2, h3, h4, h5⟩ := s.ow i ds h
    exact ⟨l, xs, h1, E.hh _ _ h2, E.nw l (by rw [h2]; exact fun z => by cases z) h3, h4, dpa_mono E.gg _ _ h5⟩
  · obtain ⟨a, h1, h2⟩ := s.sq i ns h
    exact ⟨a, h1, E.gg.seq h2⟩
/-- H alone grows -/
theorem SS.grow (s : SS K env σ G0 H0 B G H) (E : Same H H') : SS K env σ G0 H0 B G H' := s.ext' ⟨Same.refl G, E, s.ext.gh.trans E, fun _ _ z => z⟩
/-- for an expression that looks at all -/
theorem SS.all (s : SS K env σ G0 H0 B G H) : SE K env σ H := ⟨s.len, fun i d h => by
    obtain ⟨v, h1, h2⟩ := s.sh i d h
    exact ⟨v, h1, dp_mono s.ext.gh d v h2⟩, fun i ds h => by
    obtain ⟨l, xs, h1, h2, h3, h4, h5⟩ := s.ow i ds h
    exact ⟨_, h1, .lst (.inl h2) (dpa_mono s.ext.gh _ _ h5)⟩, fun i ns h => by
    obtain ⟨a, h1, h2⟩ := s.sq i ns h
    exact ⟨a, h1, s.ext.gh.seq h2⟩⟩
/-- what is own, hidden -/
def noOw (env : En) : En := env.map fun s => match s with
  | .ow _ => .un
  | s => s
theorem SS.shd (s : SS K env σ G0 H0 B G H) : SE K (noOw env) σ G := by
  unfold noOw
  refine ⟨by rw [List.length_map]; exact s.len, fun i d h => ?_, fun i ds h => ?_, fun i ns h => ?_⟩
  · rw [List.getElem?_map] at h
    cases e : env[i]? with
    | none => rw [e] at h; cases h
    | some a => rw [e] at h; cases a with
      | un => cases h
      | sh d' => cases h; exact s.sh i d e
      | ow ds => cases h
      | sq ns => cases h
  · rw [List.getElem?_map] at h
    cases e : env[i]? with
    | none => rw [e] at h; cases h
    | some a => rw [e] at h; cases a <;> cases h
  · rw [List.getElem?_map] at h
    cases e : env[i]? with
    | none => rw [e] at h; cases h
    | some a => rw [e] at h; cases a with
      | un => cases h
      | sh d' => cases h
      | ow ds => cases h
      | sq ms => cases h; exact s.sq i ns e
theorem SS.set (s : SS K env σ G0 H0 B G H) {v : V} {d : D} (i : Nat) (h : Dp K G v d) : SS K (env.set i (.sh d)) (σ.set i (some v)) G0 H0 B G H := by
  refine ⟨s.ext, s.bg, by rw [List.length_set, List.length_set, s.len], fun j e hj => ?_, fun j e hj => ?_, fun j e hj => ?_, fun j k ds es l hjk hj hk hl => ?_⟩
  · rcases set_some hj with ⟨rfl, e1, hl⟩ | ⟨ne, hj⟩
    · cases e1; exact ⟨v, List.getElem?_set_self (by rw [s.len]; exact hl), h⟩
    · rw [List.getElem?_set_ne ne]; exact s.sh j e hj
  · rcases set_some hj with ⟨rfl, e1, hl⟩ | ⟨ne, hj⟩
    · cases e1
    · rw [List.getElem?_set_ne ne]; exact s.ow j e hj
  · rcases set_some hj with ⟨rfl, e1, hl⟩ | ⟨ne, hj⟩
    · cases e1
    · rw [List.getElem?_set_ne ne]; exact s.sq j e hj
  · rcases set_some hj with ⟨rfl, e1, _⟩ | ⟨nj, hj⟩
    · cases e1
    · rcases set_some hk with ⟨rfl, e1, _⟩ | ⟨nk, hk⟩
      · cases e1
      · rw [List.getElem?_set_ne nj] at hl
        rw [List.getElem?_set_ne nk]
        exact s.di j k ds es l hjk hj hk hl
/-- a new own list into a slot -/
theorem SS.setO (s : SS K env σ G0 H0 B G H) {p : Addr} {xs : List V} {ds : List D} (i : Nat) (hp : H p = some (.lst xs)) (gp : G p = none) (h0 : H0 p = none) (h : DpAll K G xs ds) (hn : ∀ j : Nat, σ[j]? = some (some (.ref p)) → ∀ es, env[j]? ≠ some (Sl.ow es)) :
    SS K (env.set i (.ow ds)) (σ.set i (some (.ref p))) G0 H0 B G H := by
  refine ⟨s.ext, s.bg, by rw [List.length_set, List.length_set, s.len], fun j e hj => ?_, fun j e hj => ?_, fun j e hj => ?_, fun j k ds' es l hjk hj hk hl => ?_⟩
  · rcases set_some hj with ⟨rfl, e1, hl⟩ | ⟨ne, hj⟩
    · cases e1
    · rw [List.getElem?_set_ne ne]; exact s.sh j e hj
  · rcases set_some hj with ⟨rfl, e1, hl⟩ | ⟨ne, hj⟩
    · cases e1; exact ⟨p, xs, List.getElem?_set_self (by rw [s.len]; exact hl), hp, gp, h0, h⟩
    · rw [List.getElem?_set_ne ne]; exact s.ow j e hj
  · rcases set_some hj with ⟨rfl, e1, hl⟩ | ⟨ne, hj⟩
    · cases e1
    · rw [List.getElem?_set_ne ne]; exact s.sq j e hj
  · intro hl2
    rcases set_some hj with ⟨rfl, e1, hl'⟩ | ⟨nj, hj⟩
    · rw [List.getElem?_set_self (by rw [s.len]; exact hl')] at hl
      cases hl
      rcases set_some hk with ⟨rfl, _, _⟩ | ⟨nk, hk⟩
      · exact hjk rfl
      · rw [List.getElem?_set_ne nk] at hl2
        exact hn k hl2 es hk
    · rw [List.getElem?_set_ne nj] at hl
      rcases set_some hk with ⟨rfl, e1, hl'⟩ | ⟨nk, hk⟩
      · rw [List.getElem?_set_self (by rw [s.len]; exact hl')] at hl2
        cases hl2
        exact hn j hl ds' hj
      · rw [List.getElem?_set_ne nk] at hl2
        exact s.di j k ds' es l hjk hj hk hl hl2
/-- the own list of a slot changes -/
theorem SS.chg (s : SS K env σ G0 H0 B G H) {p : Addr} {xs ys : List V} {ds es : List D} {i : Nat} (hi : env[i]? = some (.ow ds)) (hv : σ[i]? = some (some (.ref p))) (hp : H p = some (.lst xs)) (h : DpAll K G ys es) :
    SS K (env.set i (.ow es)) σ G0 H0 B G (upd H p (.lst ys)) := by
  obtain ⟨l, zs, h1, h2, h3, h4, h5⟩ := s.ow i ds hi
  rw [hv] at h1; cases h1
  have ilt : i < env.length := by
    rcases Nat.lt_or_ge i env.length with z | z
    · exact z
    · rw [List.getElem?_eq_none z] at hi; cases hi
  refine ⟨⟨s.ext.gg, fun b o e => ?_, fun b o e => ?_, s.ext.nw⟩, s.bg, by rw [List.length_set]; exact s.len, fun j e hj => ?_, fun j e hj => ?_, fun j e hj => ?_, fun j k ds' es' l hjk hj hk hl => ?_⟩
  · rw [upd_ne (ne_of_none e h4)]; exact s.ext.hh b o e
  · rw [upd_ne (ne_of_none e h3)]; exact s.ext.gh b o e
  · rcases set_some hj with ⟨rfl, e1, hl⟩ | ⟨ne, hj⟩
    · cases e1
    · exact s.sh j e hj
  · rcases set_some hj with ⟨rfl, e1, hl⟩ | ⟨ne, hj⟩
    · cases e1
      exact ⟨p, ys, hv, upd_same, h3, h4, h⟩
    · obtain ⟨l, zs', a1, a2, a3, a4, a5⟩ := s.ow j e hj
      have : l ≠ p := fun z => s.di i j ds e p ne hi hj hv (by rw [a1, z])
      exact ⟨l, zs', a1, by rw [upd_ne this]; exact a2, a3, a4, a5⟩
  · rcases set_some hj with ⟨rfl, e1, hl⟩ | ⟨ne, hj⟩
    · cases e1
    · exact s.sq j e hj
  · rcases set_some hj with ⟨rfl, e1, _⟩ | ⟨nj, hj⟩
    · rcases set_some hk with ⟨rfl, _, _⟩ | ⟨nk, hk⟩
      · exact absurd rfl hjk
      · exact s.di i k ds es' l hjk hi hk hl
    · rcases set_some hk with ⟨rfl, e1, _⟩ | ⟨nk, hk⟩
      · exact s.di j i ds' ds l hjk hj hi hl
      · exact s.di j k ds' es' l hjk hj hk hl
/-- one slot frozen -/
theorem SS.frz1 (s : SS K env σ G0 H0 B G H) {i : Nat} {ds : List D} (hi : env[i]? = some (.ow ds)) : ∃ G', SS K (env.set i (.sh (.list ds))) σ G0 H0 B G' H ∧ Same G G' := by
  obtain ⟨l, xs, h1, h2, h3, h4, h5⟩ := s.ow i ds hi
  have gg : Same G (upd G l (.lst xs)) := same_upd h3
  refine ⟨upd G l (.lst xs), ⟨⟨s.ext.gg.trans gg, s.ext.hh, fun b o e => ?_, fun q hq gq => ?_⟩, s.bg.trans gg, by rw [List.length_set]; exact s.len, fun j e hj => ?_, fun j e hj => ?_, fun j e hj => ?_, fun j k ds' es' l' hjk hj hk hl => ?_⟩, gg⟩
  · by_cases z : b = l
    · subst z; rw [upd_same] at e; rw [h2]; exact e
    · rw [upd_ne z] at e; exact s.ext.gh b o e
  · have z : q ≠ l := fun z => hq (by rw [z]; exact h4)
    rw [upd_ne z]; exact s.ext.nw q hq gq
  · rcases set_some hj with ⟨rfl, e1, hl⟩ | ⟨ne, hj⟩
    · cases e1
      exact ⟨.ref l, h1, .lst (.inl upd_same) (dpa_mono gg _ _ h5)⟩
    · obtain ⟨v, a1, a2⟩ := s.sh j e hj
      exact ⟨v, a1, dp_mono gg _ _ a2⟩
  · rcases set_some hj with ⟨rfl, e1, hl⟩ | ⟨ne, hj⟩
    · cases e1
    · obtain ⟨l2, zs, a1, a2, a3, a4, a5⟩ := s.ow j e hj
      have : l2 ≠ l := fun z => s.di i j ds e l ne hi hj h1 (by rw [a1, z])
      exact ⟨l2, zs, a1, a2, by rw [upd_ne this]; exact a3, a4, dpa_mono gg _ _ a5⟩
  · rcases set_some hj with ⟨rfl, e1, hl⟩ | ⟨ne, hj⟩
    · cases e1
    · obtain ⟨a, h1, h2⟩ := s.sq j e hj
      exact ⟨a, h1, gg.seq h2⟩
  · rcases set_some hj with ⟨rfl, e1, _⟩ | ⟨nj, hj⟩
    · cases e1
    · rcases set_some hk with ⟨rfl, e1, _⟩ | ⟨nk, hk⟩
      · cases e1
      · exact s.di j k ds' es' l' hjk hj hk hl
/-- a slot forgotten -/
theorem SS.un1 (s : SS K env σ G0 H0 B G H) (i : Nat) : SS K (env.set i .un) σ G0 H0 B G H := by
  refine ⟨s.ext, s.bg, by rw [List.length_set]; exact s.len, fun j e hj => ?_, fun j e hj => ?_, fun j e hj => ?_, fun j k ds' es' l' hjk hj hk hl => ?_⟩
  · rcases set_some hj with ⟨rfl, e1, hl⟩ | ⟨ne, hj⟩
    · cases e1
    · exact s.sh j e hj
  · rcases set_some hj with ⟨rfl, e1, hl⟩ | ⟨ne, hj⟩
    · cases e1
    · exact s.ow j e hj
  · rcases set_some hj with ⟨rfl, e1, hl⟩ | ⟨ne, hj⟩
    · cases e1
    · exact s.sq j e hj
  · rcases set_some hj with ⟨rfl, e1, _⟩ | ⟨nj, hj⟩
    · cases e1
    · rcases set_some hk with ⟨rfl, e1, _⟩ | ⟨nk, hk⟩
      · cases e1
      · exact s.di j k ds' es' l' hjk hj hk hl
/-- the first n slots as in the weaker one -/
theorem SS.weakN (h : Le env' env) (s : SS K env σ G0 H0 B G H) : ∀ n, n ≤ env.length → ∃ G', SS K (env'.take n ++ env.drop n) σ G0 H0 B G' H ∧ Same G G'
  | 0, _ => ⟨G, by simpa using s, Same.refl G⟩
  | n + 1, hn => by
    obtain ⟨G1, s1, g1⟩ := SS.weakN h s n (by omega)
    have hl := h.len
    have hn' : n < env.length := hn
    have hn2 : n < env'.length := by omega
    obtain ⟨b, eb, lb⟩ := h.get (List.getElem?_eq_getElem hn2)
    have hb : env[n] = b := by rw [List.getElem?_eq_getElem hn'] at eb; exact Option.some.inj eb
    have ge : (env'.take n ++ env.drop n)[n]? = some b := by
      rw [List.getElem?_append_right (by simp; omega)]
      simp [Nat.min_eq_left (Nat.le_of_lt hn2), List.getElem?_drop, eb]
    have st : ∀ x, (env'.take n ++ env.drop n).set n x = env'.take n ++ x :: env.drop (n + 1) := fun x => by
      rw [List.set_append_right _ _ (by simp; omega)]
      have : n - (env'.take n).length = 0 := by simp; omega
      rw [this, drop_cons hn']; rfl
    have tk : env'.take (n + 1) ++ env.drop (n + 1) = env'.take n ++ env'[n] :: env.drop (n + 1) := by
      rw [List.take_succ_eq_append_getElem hn2, List.append_assoc]; rfl
    rw [tk]
    generalize env'[n] = a at lb
    cases lb with
    | refl =>
      have : env'.take n ++ b :: env.drop (n + 1) = env'.take n ++ env.drop n := by rw [drop_cons hn', hb]
      rw [this]; exact ⟨G1, s1, g1⟩
    | un =>
      have := s1.un1 n
      rw [st] at this
      exact ⟨G1, this, g1⟩
    | frz ds =>
      obtain ⟨G2, s2, g2⟩ := s1.frz1 ge
      rw [st] at s2
      exact ⟨G2, s2, g1.trans g2⟩
theorem SS.weak (h : Le env' env) (s : SS K env σ G0 H0 B G H) : ∃ G', SS K env' σ G0 H0 B G' H ∧ Same G G' := by
  obtain ⟨G1, s1, g1⟩ := s.weakN h env.length (Nat.le_refl _)
  rw [List.drop_length, List.append_nil, ← h.len, List.take_length] at s1
  exact ⟨G1, s1, g1⟩
end
section
variable {K : PySem.W.Frag} {env env' : En} {te : TE} {tt : TT} {t u : TS} {ra : Option D} {rt : Option Bool} {rA : Option (List D)} {α β γ : Type} {en : α → En} {eb : β → En} {ec : γ → En} {o p : Out α β}
/-- the start weakened -/
theorem ds_weak (h : Le env' env) (d : DS K env' t en eb o) : DS K env t en eb o := fun σ G0 H0 B G H T s q => by
  obtain ⟨G', s', g⟩ := s.weak h
  exact d σ G0 H0 B G' H T s' q
/-- the end weakened -/
theorem ds_end {g : α → γ} (h : ∀ a, Le (ec (g a)) (en a)) (d : DS K env t en eb o) : DS K env t ec eb (o.bind fun a => .nx (g a)) := fun σ G0 H0 B G H T s q => by
  refine d σ G0 H0 B G H T s ?_
  cases o with
  | nx a => intro σ' G' H' s'; obtain ⟨G2, s2, _⟩ := s'.weak (h a); exact q σ' G2 H' s2
  | rt d => exact q
  | bk b => exact q
  | ct b => exact q
  | no => exact q
theorem ds_nil {a : α} (h : Le (en a) env) : DS K env tNext en eb (.nx a : Out α β) := fun σ G0 H0 B G H T s q => by
  obtain ⟨G', s', _⟩ := s.weak h
  exact q σ G' H s'
theorem ds_seq {o : Out γ β} {k : γ → Out α β} (h : DS K env t ec eb o) (hk : ∀ a, DS K (ec a) u en eb (k a)) : DS K env (tSeq t u) en eb (o.bind k) := fun σ G0 H0 B G H T s q => by
  refine h σ G0 H0 B G H _ s ?_
  cases o with
  | nx a => exact fun σ' G' H' s' => hk a σ' G0 H0 B G' H' T s' q
  | rt d => exact q
  | bk b => exact q
  | ct b => exact q
  | no => exact q
/-- x = e, the data shared -/
theorem ds_set {i : Nat} (h : DV K (noOw env) te ra) : DS K env (tAsg te (gName i)) (fun d => env.set i (.sh d)) eb (toO ra) := fun σ G0 H0 B G H T s q => by
  cases ra with
  | none => exact q.elim
  | some d => exact h σ G H _ d s.shd s.ext.gh rfl fun v G' H' E hd => q _ G' H' ((s.ext' E).set i hd)
/-- x = e, e a thing without parts; own lists may be looked at -/
def atomO (r : Option D) : Option D := r.bind fun d => if atom d = true then some d else none
theorem atomO_some {r : Option D} {d : D} (h : atomO r = some d) : r = some d ∧ atom d = true := by
  obtain ⟨x, e1, e2⟩ := bind_some h
  by_cases z : atom x = true
  · rw [if_pos z] at e2; cases e2; exact ⟨e1, z⟩
  · rw [if_neg z] at e2; cases e2
theorem ds_setA {i : Nat} (h : DV K env te ra) : DS K env (tAsg te (gName i)) (fun d => env.set i (.sh d)) eb (toO (atomO ra)) := fun σ G0 H0 B G H T s q => by
  cases e : atomO ra with
  | none => rw [e] at q; exact q.elim
  | some d =>
    rw [e] at q
    obtain ⟨e1, e2⟩ := atomO_some e
    exact h σ H H _ d s.all (Same.refl H) e1 fun v G' H' E hd => q _ G H' ((s.grow E.hh).set i (dp_atom e2 hd))
/-- x = e, e a new list -/
theorem ds_setL {i : Nat} (h : DL K (noOw env) te rA) : DS K env (tAsg te (gName i)) (fun ds => env.set i (.ow ds)) eb (toO rA) := fun σ G0 H0 B G H T s q => by
  cases rA with
  | none => exact q.elim
  | some ds => exact h σ G H _ ds s.shd s.ext.gh rfl fun p xs G' H' E hp gp hl hd => q _ G' H' ((s.ext' E).setO i hl gp (s.ext.hh.free hp) hd fun j hj es he => by
      obtain ⟨l, zs, a1, a2, _⟩ := s.ow j es he
      rw [hj] at a1; cases a1; rw [hp] at a2; cases a2)
/-- the same of things without parts, own lists looked at -/
def atomsO (r : Option (List D)) : Option (List D) := r.bind fun ds => if ds.all atom = true then some ds else none
theorem ds_setLA {i : Nat} (h : DL K env te rA) : DS K env (tAsg te (gName i)) (fun ds => env.set i (.ow ds)) eb (toO (atomsO rA)) := fun σ G0 H0 B G H T s q => by
  cases e : atomsO rA with
  | none => rw [e] at q; exact q.elim
  | some ds =>
    rw [e] at q
    obtain ⟨es, e1, e2⟩ := bind_some e
    by_cases z : es.all atom = true
    · rw [if_pos z] at e2; cases e2
      exact h σ H H _ ds s.all (Same.refl H) e1 fun p xs G' H' E hp gp hl hd => q _ G H' ((s.grow E.hh).setO i hl (s.ext.gh.free hp) (s.ext.hh.free hp) (dpa_atom z hd) fun j hj fs he => by
        obtain ⟨l, zs, a1, a2, _⟩ := s.ow j fs he
        rw [hj] at a1; cases a1; rw [hp] at a2; cases a2)
    · rw [if_neg z] at e2; cases e2
theorem ds_ret (h : DV K (noOw env) te ra) : DS K env (tRet te) en eb (toR ra : Out α β) := fun σ G0 H0 B G H T s q => by
  cases ra with
  | none => exact q.elim
  | some d => exact h σ G H _ d s.shd s.ext.gh rfl fun v G' H' E hd => q v G' H' (s.ext.trans E) hd
theorem ds_retA (h : DV K env te ra) : DS K env (tRet te) en eb (toR (atomO ra) : Out α β) := fun σ G0 H0 B G H T s q => by
  cases e : atomO ra with
  | none => rw [e] at q; exact q.elim
  | some d =>
    rw [e] at q
    obtain ⟨e1, e2⟩ := atomO_some e
    exact h σ H H _ d s.all (Same.refl H) e1 fun v G' H' E hd => q v G H' (s.grow E.hh).ext (dp_atom e2 hd)
theorem ds_retN : DS K env tRetN en eb (.rt .none : Out α β) := fun σ G0 H0 B G H T s q => q .non G H s.ext .non
theorem ds_if (c : DT K env tt rt) (h : DS K env t en eb o) (k : DS K env u en eb p) : DS K env (tIfS tt t u) en eb (ifO rt o p) := fun σ G0 H0 B G H T s q => by
  cases rt with
  | none => exact q.elim
  | some b =>
    refine c σ H H _ b s.all (Same.refl H) rfl fun G' H' E => ?_
    cases b with
    | true => rw [if_pos rfl]; exact h σ G0 H0 B G H' T (s.grow E.hh) q
    | false => rw [if_neg Bool.false_ne_true]; exact k σ G0 H0 B G H' T (s.grow E.hh) q
theorem ds_brk {b : β} (h : Le (eb b) env) : DS K env tBreak en eb (.bk b : Out α β) := fun σ G0 H0 B G H T s q => by
  obtain ⟨G', s', _⟩ := s.weak h
  exact q σ G' H s'
theorem ds_cont {b : β} (h : Le (eb b) env) : DS K env tCont en eb (.ct b : Out α β) := fun σ G0 H0 B G H T s q => by
  obtain ⟨G', s', _⟩ := s.weak h
  exact q σ G' H s'
/-- an expression as a statement -/
theorem ds_drop (h : DV K env te ra) : DS K env (tDrop te) (fun _ : Unit => env) eb (toO (ra.bind fun _ => some ())) := fun σ G0 H0 B G H T s q => by
  cases ra with
  | none => exact q.elim
  | some d => exact h σ H H _ d s.all (Same.refl H) rfl fun v G' H' E hd => q σ G H' (s.grow E.hh)
def addL (ds : List D) (d : D) : Option (List D) := if ds.length < sizeLine then some (ds ++ [d]) else none
/-- xs.append(e), xs an own list -/
theorem ds_app {i : Nat} {ds : List D} (hi : env[i]? = some (Sl.ow ds)) (h : DV K (noOw env) te ra) : DS K env (tDrop (tBM K "list" rAppend (tVar i) (tCons te tNil))) (fun es => env.set i (.ow es)) eb (toO (ra.bind (addL ds))) := fun σ G0 H0 B G H T s q => by
  cases ra with
  | none => exact q.elim
  | some d =>
    obtain ⟨l, xs, h1, h2, h3, h4, h5⟩ := s.ow i ds hi
    refine ⟨.ref l, h1, Or.inl ⟨rfl, _, Or.inl (Or.inl h2)⟩, ?_⟩
    refine h σ G H _ d s.shd s.ext.gh rfl fun v G' H' E hd => ?_
    have s' := s.ext' E
    have h2' := E.hh _ _ h2
    change Post K _ eb T G0 H0 B (toO (addL ds d)) at q
    unfold addL at q
    by_cases hz : ds.length < sizeLine
    · rw [if_pos hz] at q
      have hlen := dpa_len h5
      exact ⟨l, xs, v, rfl, rfl, h2', by omega, q σ G' _ (s'.chg hi h1 h2' (dpa_app (dpa_mono E.gg _ _ h5) (dpa_one hd)))⟩
    · rw [if_neg hz] at q; exact q.elim
end
end Dl

set_option Elab.async false
set_option linter.all false
set_option maxRecDepth 100000
set_option maxHeartbeats 2000000
namespace Dl
open PySem PySem.Spec PyProof.Rows L2
/-! ### loops -/
def forO {α β : Type} (body : α → D → Out α α) : List D → α → Out α β
  | [], a => .nx a
  | x :: xs, a => match body a x with
    | .nx b => forO body xs b
    | .ct b => forO body xs b
    | .bk b => .nx b
    | .rt d => .rt d
    | .no => .no
def forR {α β : Type} (body : α → D → Out α α) (rI : Option (List D)) (a : α) : Out α β := match rI with
  | some ds => forO body ds a
  | none => .no
def whileO {α β : Type} (c : α → Option Bool) (body : α → Out α α) : Nat → α → Out α β
  | 0, _ => .no
  | n + 1, a => match c a with
    | none => .no
    | some false => .nx a
    | some true => match body a with
      | .nx b => whileO c body n b
      | .ct b => whileO c body n b
      | .bk b => .nx b
      | .rt d => .rt d
      | .no => .no
section
variable {K : PySem.W.Frag} {env env' : En} {te : TE} {tt : TT} {t u : TS} {ra rb : Option D} {rt : Option Bool} {rA rI : Option (List D)} {α β γ : Type} {en : α → En} {eb : β → En} {ec : γ → En}
theorem SS.base {env : En} {σ : L2.St} {G0 H0 B B' G H : Hp} (s : SS K env σ G0 H0 B G H) (h : Same B' G) : SS K env σ G0 H0 B' G H := ⟨s.ext, h, s.len, s.sh, s.ow, s.sq, s.di⟩
/-- the state's slots, own ones hidden, by a target's binding -/
theorem SS.bind {env env' : En} {σ σ2 : L2.St} {G0 H0 B G H : Hp} {vs : List Nat} (s : SS K env σ G0 H0 B G H) (se : SE K (noOw env') σ2 G) (hl : env'.length = env.length) (hk : ∀ i, i ∉ vs → σ2[i]? = σ[i]? ∧ env'[i]? = env[i]?) (hv : ∀ i ∈ vs, ∀ ds : List D, env'[i]? ≠ some (Sl.ow ds)) : SS K env' σ2 G0 H0 B G H := by
  have no : ∀ (i : Nat) (ds : List D), env'[i]? = some (Sl.ow ds) → i ∉ vs := fun i ds h z => hv i z ds h
  refine ⟨s.ext, s.bg, by have := se.len; unfold noOw at this; rw [List.length_map] at this; exact this, fun i d h => ?_, fun i ds h => ?_, fun i ns h => ?_, fun i j ds es l hij hi hj hl => ?_⟩
  · exact se.sh i d (by unfold noOw; rw [List.getElem?_map, h]; rfl)
  · have := hk i (no i ds h)
    rw [this.2] at h; rw [this.1]
    exact s.ow i ds h
  · exact se.sq i ns (by unfold noOw; rw [List.getElem?_map, h]; rfl)
  · have a := hk i (no i ds hi)
    have b := hk j (no j es hj)
    rw [a.2] at hi; rw [b.2] at hj; rw [a.1] at hl; rw [b.1]
    exact s.di i j ds es l hij hi hj hl
/-- for: the turn's state a, its slots e a -/
theorem ds_for {wi : TI} {g : TG} {tb : TS} {vs : List Nat} {b : En → D → Option En} {e : α → En} {body : α → D → Out α α} {a0 : α}
    (hi : DI K (noOw env) wi rI) (hg : BG K g vs b) (h0 : Le (e a0) env)
    (hb : ∀ a x, (∃ env1 o, b (noOw (e a)) x = some (noOw env1) ∧ env1.length = (e a).length ∧ (∀ i, i ∉ vs → env1[i]? = (e a)[i]?) ∧ (∀ i ∈ vs, ∀ ds : List D, env1[i]? ≠ some (Sl.ow ds)) ∧ DS K env1 tb e e o ∧ body a x = o) ∨ body a x = .no) :
    DS K env (tFor wi g tb) e eb (forR body rI a0) := fun σ G0 H0 B G H T s q => by
  cases rI with
  | none => exact q.elim
  | some ds =>
    refine hi σ G H _ ds s.shd s.ext.gh rfl fun J G1 H1 E1 ok => ?_
    have s1 := s.ext' E1
    obtain ⟨G2, s2, g2⟩ := s1.weak h0
    refine ⟨fun i m σ' H' => i ≤ ds.length ∧ m = ds.length - i ∧ ∃ (a : α) (G' : Hp), SS K (e a) σ' G0 H0 B G' H' ∧ Same G1 G' ∧ Post K e eb T G0 H0 B (forO body (ds.drop i) a : Out α β),
      ⟨ds.length, Nat.zero_le _, by omega, a0, G2, s2, g2, by rw [List.drop_zero]; exact q⟩, ?_⟩
    rintro i m σ' H' ⟨hi', rfl, a, G', s', g', p⟩
    by_cases hlt : i < ds.length
    · right
      refine ⟨ok.go G' H' i g' s'.ext.gh hlt, fun σ'' H'' => ∃ m', m' < ds.length - i ∧ (i + 1 ≤ ds.length ∧ m' = ds.length - (i + 1) ∧ ∃ (a : α) (G' : Hp), SS K (e a) σ'' G0 H0 B G' H'' ∧ Same G1 G' ∧ Post K e eb T G0 H0 B (forO body (ds.drop (i + 1)) a : Out α β)), fun σ'' H'' h => h, fun x H3 hy => ?_⟩
      obtain ⟨G3, E3, hx⟩ := ok.yl G' H' i x H3 ds[i] g' s'.ext.gh (List.getElem?_eq_getElem hlt) hy
      have s3 := s'.ext' E3
      rw [drop_cons hlt] at p
      unfold forO at p
      rcases hb a ds[i] with ⟨env1, o, eb1, l1, k1, v1, hd, ho⟩ | hno
      · refine hg (noOw (e a)) (noOw env1) σ' G3 H3 x ds[i] _ s3.shd s3.ext.gh hx eb1 fun σ2 se2 _ f2 => ?_
        have s4 : SS K env1 σ2 G0 H0 B G3 H3 := s3.bind (vs := vs) se2 l1 (fun i hi => ⟨(f2 i hi).1, k1 i hi⟩) v1
        have s5 : SS K env1 σ2 G0 H0 G3 G3 H3 := s4.base (Same.refl _)
        refine hd σ2 G0 H0 G3 G3 H3 _ s5 ?_
        rw [ho] at p
        have gB : ∀ {G6 : Hp}, Same G3 G6 → Same B G6 := fun z => s4.bg.trans z
        have g1 : ∀ {G6 : Hp}, Same G3 G6 → Same G1 G6 := fun z => (g'.trans E3.gg).trans z
        cases o with
        | nx c => exact fun σ6 G6 H6 s6 => ⟨_, by omega, hlt, rfl, c, G6, s6.base (gB s6.bg), g1 s6.bg, p⟩
        | ct c => exact fun σ6 G6 H6 s6 => ⟨_, by omega, hlt, rfl, c, G6, s6.base (gB s6.bg), g1 s6.bg, p⟩
        | bk c => exact fun σ6 G6 H6 s6 => p σ6 G6 H6 (s6.base (gB s6.bg))
        | rt d => exact p
        | no => exact p
      · rw [hno] at p; exact p.elim
    · left
      have ei : i = ds.length := by omega
      subst ei
      rw [List.drop_length] at p
      exact ⟨ok.stop G' H' _ g' s'.ext.gh (Nat.le_refl _), p σ' G' H' s'⟩
theorem noOw_set {env : En} {i : Nat} {d : D} : (noOw env).set i (.sh d) = noOw (env.set i (.sh d)) := by
  unfold noOw; rw [List.map_set]
/-- for x in .. (a name) -/
theorem ds_forN {wi : TI} {tb : TS} {j : Nat} {e : α → En} {body : α → D → Out α α} {a0 : α}
    (hi : DI K (noOw env) wi rI) (h0 : Le (e a0) env) (hb : ∀ a x, DS K ((e a).set j (.sh x)) tb e e (body a x)) :
    DS K env (tFor wi (gName j) tb) e eb (forR body rI a0) :=
  ds_for hi (bg_name j) h0 fun a x => .inl ⟨(e a).set j (.sh x), body a x, by rw [noOw_set], by rw [List.length_set], fun i h => by
    have : j ≠ i := fun z => h (by simp [z])
    exact List.getElem?_set_ne this, fun i h ds z => by
      simp at h; subst h
      rcases set_some z with ⟨_, e1, _⟩ | ⟨ne, _⟩
      · cases e1
      · exact ne rfl, hb a x, rfl⟩
def twoD {β : Type} (x : D) (k : D → D → β) (no : β) : β := match x with
  | .tuple [a, b] => k a b
  | _ => no
/-- for x, y in .. -/
theorem ds_for2 {wi : TI} {tb : TS} {i j : Nat} {e : α → En} {body : α → D → D → Out α α} {a0 : α}
    (hi : DI K (noOw env) wi rI) (h0 : Le (e a0) env) (hb : ∀ a x y, DS K (((e a).set i (.sh x)).set j (.sh y)) tb e e (body a x y)) :
    DS K env (tFor wi (gTup K 2 (gCons (gName i) (gCons (gName j) gNil))) tb) e eb (forR (fun a x => twoD x (body a) .no) rI a0) := by
  refine ds_for hi (bg_tup (bgs_cons (bg_name i) (bgs_cons (bg_name j) bgs_nil))) h0 fun a x => ?_
  have other : ∀ {z : D}, (∀ p q, z ≠ .tuple [p, q]) → twoD z (body a) (Out.no : Out α α) = .no := fun {z} h => by
    unfold twoD
    split
    · exact absurd rfl (h _ _)
    · rfl
  by_cases hx : ∃ p q, x = .tuple [p, q]
  · obtain ⟨p, q, rfl⟩ := hx
    refine .inl ⟨((e a).set i (.sh p)).set j (.sh q), body a p q, ?_, by rw [List.length_set, List.length_set], fun k h => ?_, fun k h ds z => ?_, hb a p q, rfl⟩
    · show (some (((noOw (e a)).set i (.sh p)).set j (.sh q)) : Option En) = _
      rw [noOw_set, noOw_set]
    · have hk : k ≠ i ∧ k ≠ j := by simpa using h
      rw [List.getElem?_set_ne (Ne.symm hk.2), List.getElem?_set_ne (Ne.symm hk.1)]
    · rcases set_some z with ⟨_, e1, _⟩ | ⟨ne, z⟩
      · cases e1
      · rcases set_some z with ⟨_, e1, _⟩ | ⟨ne2, _⟩
        · cases e1
        · have hk : k = i ∨ k = j := by simpa using h
          rcases hk with rfl | rfl
          · exact ne2 rfl
          · exact ne rfl
  · refine .inr (other fun p q z => hx ⟨p, q, z⟩)
theorem ds_while {tb : TS} {e : α → En} {c : α → Option Bool} {body : α → Out α α} {a0 : α} (n : Nat) (h0 : Le (e a0) env)
    (hc : ∀ a, DT K (e a) tt (c a)) (hb : ∀ a, DS K (e a) tb e e (body a)) : DS K env (tWhile tt tb) e eb (whileO c body n a0) := fun σ G0 H0 B G H T s q => by
  obtain ⟨G2, s2, g2⟩ := s.weak h0
  refine ⟨fun m σ' H' => ∃ (a : α) (G' : Hp), SS K (e a) σ' G0 H0 B G' H' ∧ Post K e eb T G0 H0 B (whileO c body m a : Out α β), ⟨n, a0, G2, s2, q⟩, ?_⟩
  rintro m σ' H' ⟨a, G', s', p⟩
  cases m with
  | zero => exact p.elim
  | succ m =>
    unfold whileO at p
    cases ec : c a with
    | none => rw [ec] at p; exact p.elim
    | some bb =>
      rw [ec] at p
      refine hc a σ' H' H' _ bb s'.all (Same.refl _) ec fun G3 H3 E3 => ?_
      have s3 := s'.grow E3.hh
      cases bb with
      | false => rw [if_neg Bool.false_ne_true]; exact p σ' G' H3 s3
      | true =>
        rw [if_pos rfl]
        refine ⟨fun σ'' H'' => ∃ m', m' < m + 1 ∧ ∃ (a : α) (G' : Hp), SS K (e a) σ'' G0 H0 B G' H'' ∧ Post K e eb T G0 H0 B (whileO c body m' a : Out α β), fun σ'' H'' h => h, ?_⟩
        refine hb a σ' G0 H0 B G' H3 _ s3 ?_
        change Post K e eb T G0 H0 B (match body a with | .nx b => whileO c body m b | .ct b => whileO c body m b | .bk b => .nx b | .rt d => .rt d | .no => .no : Out α β) at p
        cases ho : body a with
        | nx b => rw [ho] at p; exact fun σ6 G6 H6 s6 => ⟨m, by omega, b, G6, s6, p⟩
        | ct b => rw [ho] at p; exact fun σ6 G6 H6 s6 => ⟨m, by omega, b, G6, s6, p⟩
        | bk b => rw [ho] at p; exact p
        | rt d => rw [ho] at p; exact p
        | no => rw [ho] at p; exact p
/-! ### stores -/
def setL (ds : List D) (i : D) (d : D) : Option (List D) := match i with
  | .int k => (ixN ds.length k).map fun j => ds.set j d
  | _ => none
def setIO (ds : List D) (ra ri : Option D) : Option (List D) := (atomO ra).bind fun d => ri.bind fun k => setL ds k d
/-- xs[i] = e, xs an own list; e and i without parts, own lists looked at -/
theorem ds_setI {i : Nat} {ti : TE} {ri : Option D} {ds : List D} (hi : env[i]? = some (Sl.ow ds)) (h : DV K env te ra) (hk : DV K env ti ri) :
    DS K env (tAsg te (gSub (tVar i) ti rSetL)) (fun es => env.set i (.ow es)) eb (toO (setIO ds ra ri)) := fun σ G0 H0 B G H T s q => by
  change Post K _ eb T G0 H0 B (toO ((atomO ra).bind fun d => ri.bind fun k => setL ds k d)) at q
  cases e : atomO ra with
  | none => rw [e] at q; exact q.elim
  | some d =>
    rw [e] at q
    obtain ⟨e1, e2⟩ := atomO_some e
    refine h σ H H _ d s.all (Same.refl H) e1 fun v G' H' E hd => ?_
    have s1 := s.grow E.hh
    obtain ⟨l, xs, h1, h2, h3, h4, h5⟩ := s1.ow i ds hi
    refine ⟨.ref l, h1, ?_⟩
    cases ei : ri with
    | none => rw [ei] at q; exact q.elim
    | some k =>
      rw [ei] at q
      change Post K _ eb T G0 H0 B (toO (setL ds k d)) at q
      refine hk σ H' H' _ k s1.all (Same.refl H') ei fun w G2 H2 E2 hw => ?_
      have s2 := s1.grow E2.hh
      have h2' := E2.hh _ _ h2
      cases k with
      | int k =>
        cases hw
        change Post K _ eb T G0 H0 B (toO ((ixN ds.length k).map fun j => ds.set j d)) at q
        cases ej : ixN ds.length k with
        | none => rw [ej] at q; exact q.elim
        | some j =>
          rw [ej] at q
          refine ⟨l, xs, k, j, rfl, rfl, h2', by rw [dpa_len h5]; exact ej, q σ G _ (s2.chg hi h1 h2' (dpa_set (dp_atom e2 hd) j h5))⟩
      | _ => exact q.elim
/-- x = xs.pop(), xs an own list -/
def popO (ds : List D) : Option (D × List D) := (ds[ds.length - 1]?).bind fun d => some (d, ds.dropLast)
theorem ds_pop {i j : Nat} {ds : List D} (hi : env[i]? = some (Sl.ow ds)) (hij : j ≠ i := by decide) : DS K env (tAsg (tBM0 K "list" rPop (tVar i)) (gName j)) (fun (p : D × List D) => (env.set i (.ow p.2)).set j (.sh p.1)) eb
    (toO (popO ds)) := fun σ G0 H0 B G H T s q => by
  obtain ⟨l, xs, h1, h2, h3, h4, h5⟩ := s.ow i ds hi
  have hlen := dpa_len h5
  cases e : ds[ds.length - 1]? with
  | none => rw [show popO ds = none by unfold popO; rw [e]; rfl] at q; exact q.elim
  | some d =>
    rw [show popO ds = some (d, ds.dropLast) by unfold popO; rw [e]; rfl] at q
    obtain ⟨v, hv, hd⟩ := dpa_get h5 e
    refine ⟨.ref l, h1, Or.inl ⟨rfl, _, Or.inl (Or.inl h2)⟩, l, xs, v, rfl, rfl, h2, by rw [hlen]; exact hv, ?_⟩
    have := s.chg (ys := xs.dropLast) (es := ds.dropLast) hi h1 h2 (by rw [List.dropLast_eq_take, List.dropLast_eq_take, hlen]; exact dpa_take _ h5)
    exact q _ G _ (this.set j hd)
/-- x op= e -/
def IpD (K : PySem.W.Frag) (r : TIp) (f : D → D → Option D) : Prop := OpD K r f
theorem ds_aug {i : Nat} {ti : TIp} {f : D → D → Option D} {x : D} (hi : env[i]? = some (Sl.sh x)) (ho : IpD K ti f) (h : DV K (noOw env) te ra) :
    DS K env (tAug i te ti) (fun d => env.set i (.sh d)) eb (toO (ra.bind fun y => f x y)) := fun σ G0 H0 B G H T s q => by
  obtain ⟨v, h1, h2⟩ := s.sh i x hi
  cases ra with
  | none => exact q.elim
  | some y =>
    change Post K _ eb T G0 H0 B (toO (f x y)) at q
    refine ⟨v, h1, h σ G H _ y s.shd s.ext.gh rfl fun w G1 H1 E1 hw => ?_⟩
    have s1 := s.ext' E1
    cases ef : f x y with
    | none => rw [ef] at q; exact q.elim
    | some d =>
      rw [ef] at q
      exact ho G1 H1 _ x y d v w s1.ext.gh (dp_mono E1.gg x v h2) hw ef fun z G2 H2 E2 hz => q _ G2 H2 ((s1.ext' E2).set i hz)
/-- a, b = e1, e2 -/
def twoO (r : Option (List D)) : Option (D × D) := r.bind fun ds => match ds with
  | [a, b] => some (a, b)
  | _ => none
theorem ds_par {i j : Nat} {ta : TA} (h : DA K (noOw env) ta rA) : DS K env (tPar i j ta) (fun (p : D × D) => (env.set i (.sh p.1)).set j (.sh p.2)) eb (toO (twoO rA)) := fun σ G0 H0 B G H T s q => by
  cases e : twoO rA with
  | none => rw [e] at q; exact q.elim
  | some p =>
    rw [e] at q
    obtain ⟨ds, e1, e2⟩ := bind_some e
    match ds, e1, e2 with
    | [a, b], e1, e2 =>
      cases e2
      refine h σ G H _ _ s.shd s.ext.gh e1 fun vs G1 H1 E1 hv => ?_
      cases hv with
      | cons r t => cases t with
        | cons r2 t => cases t; exact ⟨_, _, rfl, q _ G1 H1 (((s.ext' E1).set i r).set j r2)⟩
/-- a, b = e, e a tuple -/
theorem ds_unp {i j : Nat} (h : DV K (noOw env) te ra) : DS K env (tAsg te (gTup K 2 (gCons (gName i) (gCons (gName j) gNil)))) (fun (p : D × D) => (env.set i (.sh p.1)).set j (.sh p.2)) eb (toO (twoO (ra.bind asU))) := fun σ G0 H0 B G H T s q => by
  cases e : twoO (ra.bind asU) with
  | none => rw [e] at q; exact q.elim
  | some p =>
    rw [e] at q
    obtain ⟨ds, e1, e2⟩ := bind_some e
    obtain ⟨x, ex, eu⟩ := bind_some e1
    have := asU_some eu; subst this
    match ds, e1, eu, e2, ex with
    | [a, b], e1, eu, e2, ex =>
      cases e2
      refine h σ G H _ _ s.shd s.ext.gh ex fun v G1 H1 E1 hv => ?_
      cases hv with
      | tup hs hd =>
        have s1 := s.ext' E1
        refine ⟨_, _, rfl, sqt_mono E1.gh hs, by rw [dpa_len hd]; rfl, ?_⟩
        cases hd with
        | cons r t => cases t with
          | cons r2 t => cases t; exact ⟨_, _, rfl, _, _, rfl, rfl, q _ G1 H1 ((s1.set i r).set j r2)⟩
def threeO (r : Option (List D)) : Option (D × D × D) := r.bind fun ds => match ds with
  | [a, b, c] => some (a, b, c)
  | _ => none
theorem ds_unp3 {i j k : Nat} (h : DV K (noOw env) te ra) : DS K env (tAsg te (gTup K 3 (gCons (gName i) (gCons (gName j) (gCons (gName k) gNil))))) (fun (p : D × D × D) => ((env.set i (.sh p.1)).set j (.sh p.2.1)).set k (.sh p.2.2)) eb (toO (threeO (ra.bind asU))) := fun σ G0 H0 B G H T s q => by
  cases e : threeO (ra.bind asU) with
  | none => rw [e] at q; exact q.elim
  | some p =>
    rw [e] at q
    obtain ⟨ds, e1, e2⟩ := bind_some e
    obtain ⟨x, ex, eu⟩ := bind_some e1
    have := asU_some eu; subst this
    match ds, e1, eu, e2, ex with
    | [a, b, c], e1, eu, e2, ex =>
      cases e2
      refine h σ G H _ _ s.shd s.ext.gh ex fun v G1 H1 E1 hv => ?_
      cases hv with
      | tup hs hd =>
        have s1 := s.ext' E1
        refine ⟨_, _, rfl, sqt_mono E1.gh hs, by rw [dpa_len hd]; rfl, ?_⟩
        cases hd with
        | cons r t => cases t with
          | cons r2 t => cases t with
            | cons r3 t => cases t; exact ⟨_, _, rfl, _, _, rfl, _, _, rfl, rfl, q _ G1 H1 (((s1.set i r).set j r2).set k r3)⟩
end
/-! ### a def -/
theorem start_env {K : PySem.W.Frag} {G H : Hp} {vs : List V} {ds : List D} {N : List Str} (g : Same G H) (h : DpAll K G vs ds) (hn : ds.length ≤ N.length) :
    SS K (ds.map Sl.sh ++ List.replicate (N.length - ds.length) Sl.un) (L2.start N vs) G H G G H := by
  have hl := dpa_len h
  have nh : ∀ (i : Nat) (s : Sl), (ds.map Sl.sh ++ List.replicate (N.length - ds.length) Sl.un)[i]? = some s → (∃ d, ds[i]? = some d ∧ s = .sh d) ∨ s = .un := fun i s hs => by
    rcases Nat.lt_or_ge i ds.length with z | z
    · rw [List.getElem?_append_left (by simpa using z), List.getElem?_map, List.getElem?_eq_getElem z] at hs
      exact .inl ⟨ds[i], List.getElem?_eq_getElem z, by simpa using hs.symm⟩
    · rw [List.getElem?_append_right (by simpa using z)] at hs
      have := List.mem_of_getElem? hs
      exact .inr (List.eq_of_mem_replicate this)
  refine ⟨Ext.refl g, Same.refl G, by unfold L2.start; simp [hl], fun i d hd => ?_, fun i es hd => ?_, fun i es hd => ?_, fun i j es fs l hij hi _ _ => ?_⟩
  · rcases nh i _ hd with ⟨d', e, z⟩ | z
    · cases z
      obtain ⟨v, hv, r⟩ := dpa_get h e
      have hi : i < vs.length := by
        rcases Nat.lt_or_ge i vs.length with z | z
        · exact z
        · rw [List.getElem?_eq_none z] at hv; cases hv
      refine ⟨v, ?_, r⟩
      unfold L2.start
      rw [List.getElem?_append_left (by simpa using hi), List.getElem?_map, hv]; rfl
    · cases z
  · rcases nh i _ hd with ⟨d', e, z⟩ | z <;> cases z
  · rcases nh i _ hd with ⟨d', e, z⟩ | z <;> cases z
  · rcases nh i _ hi with ⟨d', e, z⟩ | z <;> cases z
/-- the body's o is what the mirror says -/
theorem fn_body {K : PySem.W.Frag} {m : List D → Option D} {N : List Str} {t : TS} {vs : List V} {H : Hp} {Q : VK} {E : XK} (h : spD K m vs H Q E) (hn : ∀ ds d, m ds = some d → ds.length ≤ N.length)
    (hb : ∀ ds d, m ds = some d → ∃ (β : Type) (eb : β → En) (α : Type) (en : α → En) (o : Out α β), DS K (ds.map Sl.sh ++ List.replicate (N.length - ds.length) Sl.un) t en eb o ∧ o.run = some d) :
    t { nx := fun _ H' => Q .non H', rt := Q } (L2.start N vs) H := by
  obtain ⟨G, ds, d, g, ha, e, q⟩ := h
  obtain ⟨β, eb, α, en, o, hd, ho⟩ := hb ds d e
  refine hd _ G H G G H _ (start_env g ha (hn ds d e)) ?_
  cases o with
  | nx a => cases ho; exact fun σ G' H' s => q .non G' H' s.ext .non
  | rt d' => cases ho; exact fun v G' H' E hv => q v G' H' E hv
  | bk b => cases ho
  | ct b => cases ho
  | no => cases ho
end Dl

set_option Elab.async false
set_option linter.all false
set_option maxRecDepth 100000
set_option maxHeartbeats 2000000
namespace Dl
open PySem PySem.Spec PyProof.Rows L2
section
variable {X : Cx}
/-! ### operators: the reading by values, its mirror on data -/
theorem op_catS : OpR X (binaryOp .Add) (fun x y H Q => ∃ l b xs zs, x = .ref l ∧ y = .ref b ∧ Rd H l (.lst xs) ∧ Rd H b (.lst zs) ∧ xs.length + zs.length ≤ sizeLine ∧ ∀ p, H p = none → Q (.ref p) (upd H p (.lst (xs ++ zs)))) := by
  intro pins s σ H x y v u Q I rx ry h
  obtain ⟨l, b, xs, zs, rfl, rfl, hH, hB, hz, q⟩ := h
  cases rx
  cases ry
  obtain ⟨z, its, n, r, e⟩ := hH.ok I.hok
  obtain ⟨z2, its2, n2, r2, e2⟩ := hB.ok I.hok
  have hl := r.length
  have hl2 := r2.length
  refine PySem.P.add_list e e2 ?_ (by rw [List.size_toArray, List.size_toArray]; omega)
  have ea : its.toArray ++ its2.toArray = (its ++ its2).toArray := by simp
  rw [ea]
  exact ⟨.ref _, _, I.lnew (t' := s.toks) (r.append r2) (by rw [List.length_append]; omega), rfl, q _ I.fresh⟩
def rCatS : R2 := fun x y H Q => ∃ l b xs zs, x = .ref l ∧ y = .ref b ∧ Rd H l (.lst xs) ∧ Rd H b (.lst zs) ∧ xs.length + zs.length ≤ sizeLine ∧ ∀ p, H p = none → Q (.ref p) (upd H p (.lst (xs ++ zs)))
theorem op_cat' : OpR X (binaryOp .Add) rCatS := op_catS
def rAddSt : R2 := fun x y H Q => ∃ i j, x = .str i ∧ y = .str j ∧ i.length + j.length ≤ sizeLine ∧ Q (.str (i ++ j)) H
def rAddX : R2 := fun x y H Q => rI0 (fun i j => .int (i + j)) x y H Q ∨ rAddSt x y H Q ∨ rCatS x y H Q
theorem op_addX : OpR X (binaryOp .Add) rAddX := op_add.or ((show OpR X (binaryOp .Add) rAddSt from op_add_str).or op_cat')
end
def addD : D → D → Option D
  | .int i, .int j => some (.int (i + j))
  | .str a, .str b => if a.length + b.length ≤ sizeLine then some (.str (a ++ b)) else none
  | .list a, .list b => if a.length + b.length ≤ sizeLine then some (.list (a ++ b)) else none
  | _, _ => none
def catL : D → D → Option (List D)
  | .list a, .list b => if a.length + b.length ≤ sizeLine then some (a ++ b) else none
  | _, _ => none
section
variable {K : PySem.W.Frag}
theorem ol_cat : OpL K rCatS catL := fun G H Q x y d v w g hx hy e q => by
  match x, y, hx, hy, e with
  | .list a, .list b, .lst h1 h2, .lst h3 h4, e =>
    replace e : (if a.length + b.length ≤ sizeLine then some (a ++ b) else none) = some d := e
    by_cases hz : a.length + b.length ≤ sizeLine
    · rw [if_pos hz] at e; cases e
      refine ⟨_, _, _, _, rfl, rfl, rd_mono g h1, rd_mono g h3, by rw [dpa_len h2, dpa_len h4]; exact hz, fun p hp => ?_⟩
      exact q p _ G _ (Ext.own g hp) hp (g.free hp) upd_same (dpa_app h2 h4)
    · rw [if_neg hz] at e; cases e
theorem od_add : OpD K rAddX addD := fun G H Q x y d v w g hx hy e q => by
  match x, y, hx, hy, e with
  | .int i, .int j, .int _, .int _, e => cases e; exact .inl ⟨i, j, rfl, rfl, q _ G H (Ext.refl g) (.int _)⟩
  | .str a, .str b, .str _, .str _, e =>
    replace e : (if a.length + b.length ≤ sizeLine then some (PyData.str (a ++ b)) else none) = some d := e
    by_cases hz : a.length + b.length ≤ sizeLine
    · rw [if_pos hz] at e; cases e
      exact .inr (.inl ⟨a, b, rfl, rfl, hz, q _ G H (Ext.refl g) (.str _)⟩)
    · rw [if_neg hz] at e; cases e
  | .list a, .list b, .lst h1 h2, .lst h3 h4, e =>
    replace e : (if a.length + b.length ≤ sizeLine then some (PyData.list (a ++ b)) else none) = some d := e
    by_cases hz : a.length + b.length ≤ sizeLine
    · rw [if_pos hz] at e; cases e
      refine .inr (.inr ⟨_, _, _, _, rfl, rfl, rd_mono g h1, rd_mono g h3, by rw [dpa_len h2, dpa_len h4]; exact hz, fun p hp => ?_⟩)
      have gp := g.free hp
      exact q _ _ _ (Ext.new g hp) (.lst (.inl upd_same) (dpa_mono (same_upd gp) _ _ (dpa_app h2 h4)))
    · rw [if_neg hz] at e; cases e
/-- an operation on two ints -/
def intD (c : Int → Int → Bool) (f : Int → Int → D) : D → D → Option D
  | .int i, .int j => if c i j = true then some (f i j) else none
  | _, _ => none
theorem od_rI {C : Int → Int → Prop} {g : Int → Int → V} {c : Int → Int → Bool} {f : Int → Int → D} (hc : ∀ i j, c i j = true → C i j) (hf : ∀ i j H, Dp K H (g i j) (f i j)) : OpD K (rI C g) (intD c f) := fun G H Q x y d v w gh hx hy e q => by
  match x, y, hx, hy, e with
  | .int i, .int j, .int _, .int _, e =>
    replace e : (if c i j = true then some (f i j) else none) = some d := e
    by_cases hz : c i j = true
    · rw [if_pos hz] at e; cases e
      exact ⟨i, j, rfl, rfl, hc i j hz, q _ G H (Ext.refl gh) (hf i j G)⟩
    · rw [if_neg hz] at e; cases e
def intD0 (f : Int → Int → D) : D → D → Option D
  | .int i, .int j => some (f i j)
  | _, _ => none
theorem od_rI0 {g : Int → Int → V} {f : Int → Int → D} (hf : ∀ i j H, Dp K H (g i j) (f i j)) : OpD K (rI0 g) (intD0 f) := fun G H Q x y d v w gh hx hy e q => by
  match x, y, hx, hy, e with
  | .int i, .int j, .int _, .int _, e => cases e; exact ⟨i, j, rfl, rfl, q _ G H (Ext.refl gh) (hf i j G)⟩
def subD : D → D → Option D := intD0 fun i j => .int (i - j)
theorem od_sub : OpD K (rI0 fun i j => .int (i - j)) subD := od_rI0 fun _ _ _ => .int _
def smallI : Int → Bool
  | .ofNat n => Nat.ble n 18446744073709551615
  | .negSucc n => Nat.ble n 18446744073709551614
theorem smallI_lt {i : Int} (h : smallI i = true) : -(2 ^ 64) < i ∧ i < 2 ^ 64 := by
  cases i with
  | ofNat n =>
    have := Nat.le_of_ble_eq_true h
    show -(2 ^ 64) < (n : Int) ∧ (n : Int) < 2 ^ 64
    omega
  | negSucc n => have := Nat.le_of_ble_eq_true h; omega
theorem smallI_of {i : Int} (h : -1000000000000000 < i ∧ i < 1000000000000000) : smallI i = true := by
  cases i with
  | ofNat n =>
    have h' : -1000000000000000 < (n : Int) ∧ (n : Int) < 1000000000000000 := h
    exact Nat.ble_eq_true_of_le (by omega)
  | negSucc n => exact Nat.ble_eq_true_of_le (by omega)
def mulD : D → D → Option D := intD (fun i j => smallI i || smallI j) fun i j => .int (i * j)
theorem od_mul : OpD K (rI CMul fun i j => .int (i * j)) mulD := od_rI (fun i j h => by
  rw [Bool.or_eq_true] at h
  rcases h with h | h
  · exact .inl (smallI_lt h)
  · exact .inr (smallI_lt h)) fun _ _ _ => .int _
def fdivD : D → D → Option D := intD (fun _ j => decide (0 < j ∧ j < 1073741824)) fun i j => .int (i / j)
theorem od_fdiv : OpD K (rI CDiv fun i j => .int (i / j)) fdivD := od_rI (fun i j h => (show (0 < j ∧ j < 1073741824) from of_decide_eq_true h)) fun _ _ _ => .int _
def modD : D → D → Option D := intD (fun _ j => decide (0 < j)) fun i j => .int (i % j)
theorem od_mod : OpD K (rI (fun _ j => 0 < j) fun i j => .int (i % j)) modD := od_rI (fun i j h => of_decide_eq_true h) fun _ _ _ => .int _
def powD : D → D → Option D := intD (fun i j => decide (0 ≤ j ∧ j ≤ 1000000 ∧ i.natAbs < 2 ^ 64)) fun i j => .int (i ^ j.toNat)
theorem od_pow : OpD K (rI CPow fun i j => .int (i ^ j.toNat)) powD := od_rI (fun i j h => (show (0 ≤ j ∧ j ≤ 1000000 ∧ i.natAbs < 2 ^ 64) from of_decide_eq_true h)) fun _ _ _ => .int _
def ltD : D → D → Option D := intD0 fun i j => .bool (decide (i < j))
def leD : D → D → Option D := intD0 fun i j => .bool (decide (i ≤ j))
def gtD : D → D → Option D := intD0 fun i j => .bool (decide (j < i))
def geD : D → D → Option D := intD0 fun i j => .bool (decide (j ≤ i))
theorem od_lt : OpD K (rI0 fun i j => .bl (decide (i < j))) ltD := od_rI0 fun _ _ _ => .bl _
theorem od_le : OpD K (rI0 fun i j => .bl (decide (i ≤ j))) leD := od_rI0 fun _ _ _ => .bl _
theorem od_gt : OpD K (rI0 fun i j => .bl (decide (j < i))) gtD := od_rI0 fun _ _ _ => .bl _
theorem od_ge : OpD K (rI0 fun i j => .bl (decide (j ≤ i))) geD := od_rI0 fun _ _ _ => .bl _
/-- == and != of data -/
def eqD (x y : D) : Option D := if SeqAt.shaped x = true ∧ SeqAt.shaped y = true then some (.bool (PyData.eqv x y)) else none
def neD (x y : D) : Option D := if SeqAt.shaped x = true ∧ SeqAt.shaped y = true then some (.bool (!PyData.eqv x y)) else none
theorem od_eq : OpD K (rEqD K) eqD := fun G H Q x y d v w g hx hy e q => by
  unfold eqD at e
  by_cases hz : SeqAt.shaped x = true ∧ SeqAt.shaped y = true
  · rw [if_pos hz] at e; cases e
    exact ⟨x, y, dp_lay x v (dp_mono g x v hx), dp_lay y w (dp_mono g y w hy), hz.1, hz.2, q _ G H (Ext.refl g) (.bl _)⟩
  · rw [if_neg hz] at e; cases e
theorem od_ne : OpD K (rNeD K) neD := fun G H Q x y d v w g hx hy e q => by
  unfold neD at e
  by_cases hz : SeqAt.shaped x = true ∧ SeqAt.shaped y = true
  · rw [if_pos hz] at e; cases e
    exact ⟨x, y, dp_lay x v (dp_mono g x v hx), dp_lay y w (dp_mono g y w hy), hz.1, hz.2, q _ G H (Ext.refl g) (.bl _)⟩
  · rw [if_neg hz] at e; cases e
/-- is None, is not None -/
def isNoneD (x y : D) : Option D := match y with
  | .none => some (.bool (match x with | .none => true | _ => false))
  | _ => none
def notNoneD (x y : D) : Option D := match y with
  | .none => some (.bool (match x with | .none => false | _ => true))
  | _ => none
theorem od_isN : OpD K (fun x y H Q => y = .non ∧ Q (.bl (decide (x = .non))) H) isNoneD := fun G H Q x y d v w g hx hy e q => by
  match y, hy, e with
  | .none, .non, e =>
    cases e
    refine ⟨rfl, ?_⟩
    cases hx <;> exact q _ G H (Ext.refl g) (.bl _)
theorem od_notN : OpD K (fun x y H Q => y = .non ∧ Q (.bl (!decide (x = .non))) H) notNoneD := fun G H Q x y d v w g hx hy e q => by
  match y, hy, e with
  | .none, .non, e =>
    cases e
    refine ⟨rfl, ?_⟩
    cases hx <;> exact q _ G H (Ext.refl g) (.bl _)
/-! in: a flat thing in a list or tuple of flat things; a text in a text -/
def toV : D → V
  | .none => .non
  | .bool b => .bl b
  | .int i => .int i
  | .str z => .str z
  | _ => .ty ""
theorem toV_of {H : Hp} {v : V} : ∀ {d : D}, atom d = true → Dp K H v d → v = toV d
  | .none, _, h => by cases h; rfl
  | .bool b, _, h => by cases h; rfl
  | .int i, _, h => by cases h; rfl
  | .str x, _, h => by cases h; rfl
  | .list _, e, _ => by cases e
  | .tuple _, e, _ => by cases e
  | .dict _, e, _ => by cases e
theorem flat_of : ∀ {d : D}, atom d = true → flatV (toV d) = true
  | .none, _ => rfl
  | .bool b, _ => rfl
  | .int i, _ => rfl
  | .str x, _ => rfl
  | .list _, e => by cases e
  | .tuple _, e => by cases e
  | .dict _, e => by cases e
theorem toVs_of {H : Hp} : ∀ {vs : List V} {ds : List D}, ds.all atom = true → DpAll K H vs ds → vs = ds.map toV
  | _, _, _, .nil => rfl
  | _, _, e, .cons r t => by
    rw [List.all_cons, Bool.and_eq_true] at e
    rw [toV_of e.1 r, toVs_of e.2 t]; rfl
theorem flats_of : ∀ {ds : List D}, ds.all atom = true → (ds.map toV).all flatV = true
  | [], _ => rfl
  | d :: ds, e => by
    rw [List.all_cons, Bool.and_eq_true] at e
    rw [List.map_cons, List.all_cons, flat_of e.1, flats_of e.2]; rfl
def eqA : D → D → Bool
  | .none, .none => true
  | .bool a, .bool b => a == b
  | .bool a, .int b => (if a then 1 else 0) == b
  | .int a, .bool b => a == (if b then 1 else 0)
  | .int a, .int b => a == b
  | .str a, .str b => a == b
  | _, _ => false
theorem eqA_is : ∀ {y x : D}, atom y = true → atom x = true → eqV (toV y) (toV x) = eqA y x
  | y, x, hy, hx => by cases y <;> cases x <;> first | (cases hy; done) | (cases hx; done) | rfl
def inSt (x : Str) (y : Str) : Bool := !(Builtin.Str.occurrences y x 0 y.length 1).isEmpty
def memA (x : D) (ys : List D) : Bool := ys.any fun y => eqA y x
theorem memA_is {x : D} (hx : atom x = true) : ∀ {ys : List D}, ys.all atom = true → inV (toV x) (ys.map toV) = memA x ys
  | [], _ => rfl
  | y :: ys, e => by
    rw [List.all_cons, Bool.and_eq_true] at e
    have ih := memA_is hx e.2
    unfold inV memA at ih ⊢
    rw [List.map_cons, List.any_cons, List.any_cons, ih, eqA_is e.1 hx]
def inD (neg : Bool) (x y : D) : Option D := match y with
  | .list ys => if atom x && ys.all atom then some (.bool (if neg then !memA x ys else memA x ys)) else none
  | .tuple ys => if atom x && ys.all atom then some (.bool (if neg then !memA x ys else memA x ys)) else none
  | .str b => match x with
    | .str a => some (.bool (if neg then !inSt a b else inSt a b))
    | _ => none
  | _ => none
def rInStr (neg : Bool) : R2 := fun x y H Q => ∃ i j, x = .str i ∧ y = .str j ∧ Q (.bl (if neg then !inSt i j else inSt i j)) H
def rInX (K : PySem.W.Frag) (neg : Bool) : R2 := fun x y H Q => rIn K neg x y H Q ∨ rInStr neg x y H Q
theorem op_inX {X : Cx} : OpR X (compareOp .In) (rInX X.K false) := op_in_seq.or (show OpR X (compareOp .In) (rInStr false) from op_in_str)
theorem op_notInX {X : Cx} : OpR X (compareOp .NotIn) (rInX X.K true) := op_notIn_seq.or (show OpR X (compareOp .NotIn) (rInStr true) from op_notin_str)
theorem od_in (neg : Bool) : OpD K (rInX K neg) (inD neg) := fun G H Q x y d v w g hx hy e q => by
  match y, hy, e with
  | .list ys, .lst h1 h2, e =>
    replace e : (if (atom x && ys.all atom) = true then some (PyData.bool (if neg then !memA x ys else memA x ys)) else none) = some d := e
    by_cases hz : (atom x && ys.all atom) = true
    · rw [if_pos hz] at e; cases e
      rw [Bool.and_eq_true] at hz
      have ev := toV_of hz.1 hx
      have ew := toVs_of hz.2 h2
      subst ev; subst ew
      refine .inl ⟨_, _, rfl, .inl (.inl (rd_mono g h1)), flat_of hz.1, flats_of hz.2, ?_⟩
      rw [memA_is hz.1 hz.2]
      exact q _ G H (Ext.refl g) (.bl _)
    · rw [if_neg hz] at e; cases e
  | .tuple ys, .tup h1 h2, e =>
    replace e : (if (atom x && ys.all atom) = true then some (PyData.bool (if neg then !memA x ys else memA x ys)) else none) = some d := e
    by_cases hz : (atom x && ys.all atom) = true
    · rw [if_pos hz] at e; cases e
      rw [Bool.and_eq_true] at hz
      have ev := toV_of hz.1 hx
      have ew := toVs_of hz.2 h2
      subst ev; subst ew
      refine .inl ⟨_, _, rfl, .inr (sqt_mono g h1), flat_of hz.1, flats_of hz.2, ?_⟩
      rw [memA_is hz.1 hz.2]
      exact q _ G H (Ext.refl g) (.bl _)
    · rw [if_neg hz] at e; cases e
  | .str b, .str _, e =>
    match x, hx, e with
    | .str a, .str _, e =>
      cases e
      exact .inr ⟨a, b, rfl, rfl, q _ G H (Ext.refl g) (.bl _)⟩
/-! a subscript, a slice -/
def ixD : D → D → Option D
  | .list ds, .int i => atI ds i
  | .tuple ds, .int i => atI ds i
  | .str z, .int i => if z.length ≤ sizeLine then (atI z.cps.toList i).map fun c => .str ⟨#[c]⟩ else none
  | _, _ => none
theorem dpa_at {H : Hp} {vs : List V} {ds : List D} {i : Int} {d : D} (h : DpAll K H vs ds) (e : atI ds i = some d) : ∃ v, atI vs i = some v ∧ Dp K H v d := by
  unfold atI at e ⊢
  obtain ⟨j, e1, e2⟩ := bind_some e
  rw [dpa_len h, e1]
  exact dpa_get h e2
theorem od_ix : OpD K (rIx K) ixD := fun G H Q x y d v w g hx hy e q => by
  match x, y, hx, hy, e with
  | .list ds, .int i, .lst h1 h2, .int _, e =>
    obtain ⟨v, e1, e2⟩ := dpa_at h2 e
    exact .inl ⟨_, _, i, v, rfl, rfl, .inl (rd_mono g h1), e1, q _ G H (Ext.refl g) e2⟩
  | .tuple ds, .int i, .tup h1 h2, .int _, e =>
    obtain ⟨v, e1, e2⟩ := dpa_at h2 e
    exact .inr (.inl ⟨_, _, i, v, rfl, rfl, sqt_mono g h1, e1, q _ G H (Ext.refl g) e2⟩)
  | .str z, .int i, .str _, .int _, e =>
    replace e : (if z.length ≤ sizeLine then (atI z.cps.toList i).map fun c => PyData.str ⟨#[c]⟩ else none) = some d := e
    by_cases hz : z.length ≤ sizeLine
    · rw [if_pos hz] at e
      cases ec : atI z.cps.toList i with
      | none => rw [ec] at e; cases e
      | some c => rw [ec] at e; cases e; exact .inr (.inr ⟨z, i, c, rfl, rfl, hz, ec, q _ G H (Ext.refl g) (.str _)⟩)
    · rw [if_neg hz] at e; cases e
/-- a slice's part -/
def partD : D → Option (Option Int)
  | .int i => some (some i)
  | _ => none
theorem do_none {env : En} : DO K env tNoPart (some none) := fun σ G H Q o s g e q => by
  cases e; exact q G H (Ext.refl g)
theorem do_part {env : En} {te : TE} {ra : Option D} (h : DV K env te ra) : DO K env (tPart te) (ra.bind partD) := fun σ G H Q o s g e q => by
  obtain ⟨x, ex, e⟩ := bind_some e
  match x, ex, e with
  | .int i, ex, e =>
    cases e
    refine h σ G H _ _ s g ex fun v G1 H1 E1 h1 => ?_
    cases h1
    exact ⟨i, rfl, q G1 H1 E1⟩
def cutD (ds : List D) (lo hi : Option Int) : List D := (ds.drop (HT.sIx ds.length 0 lo)).take (HT.sIx ds.length ds.length hi - HT.sIx ds.length 0 lo)
theorem dpa_cut {H : Hp} {vs : List V} {ds : List D} (lo hi : Option Int) (h : DpAll K H vs ds) : DpAll K H (cutV vs lo hi) (cutD ds lo hi) := by
  unfold cutV cutD
  rw [dpa_len h]
  exact dpa_take _ (dpa_drop _ h)
def SlD (K : PySem.W.Frag) (r : V → Option Int → Option Int → Hp → VK → Prop) (f : D → Option Int → Option Int → Option D) : Prop := ∀ (G H : Hp) (Q : VK) x lo hi d v, Same G H → Dp K G v x → f x lo hi = some d → (∀ v G' H', Ext G H G' H' → Dp K G' v d → Q v H') → r v lo hi H Q
def SlLs (K : PySem.W.Frag) (r : V → Option Int → Option Int → Hp → VK → Prop) (f : D → Option Int → Option Int → Option (List D)) : Prop := ∀ (G H : Hp) (Q : VK) x lo hi ds v, Same G H → Dp K G v x → f x lo hi = some ds → (∀ p ys G' H', Ext G H G' H' → H p = none → G' p = none → H' p = some (.lst ys) → DpAll K G' ys ds → Q (.ref p) H') → r v lo hi H Q
def slO {α : Type} (f : D → Option Int → Option Int → Option α) (ra : Option D) (rl rh : Option (Option Int)) : Option α := ra.bind fun x => rl.bind fun lo => rh.bind fun hi => f x lo hi
theorem dv_sl {env : En} {r : V → Option Int → Option Int → Hp → VK → Prop} {f : D → Option Int → Option Int → Option D} {te : TE} {tl th : TO} {ra : Option D} {rl rh : Option (Option Int)} (ho : SlD K r f) (h : DV K env te ra) (hl : DO K env tl rl) (hh : DO K env th rh) :
    DV K env (tSl r te tl th) (slO f ra rl rh) := fun σ G H Q d s g e q => by
  obtain ⟨x, ex, e⟩ := bind_some e
  obtain ⟨lo, el, e⟩ := bind_some e
  obtain ⟨hi, eh, e⟩ := bind_some e
  refine h σ G H _ _ s g ex fun v G1 H1 E1 h1 => ?_
  refine hl σ G1 H1 _ _ (s.mono E1.gg) E1.gh el fun G2 H2 E2 => ?_
  refine hh σ G2 H2 _ _ (s.mono (E1.gg.trans E2.gg)) E2.gh eh fun G3 H3 E3 => ?_
  exact ho G3 H3 Q x lo hi d v E3.gh (dp_mono (E2.gg.trans E3.gg) x v h1) e fun u G4 H4 E4 h4 => q u G4 H4 (((E1.trans E2).trans E3).trans E4) h4
theorem dl_sl {env : En} {r : V → Option Int → Option Int → Hp → VK → Prop} {f : D → Option Int → Option Int → Option (List D)} {te : TE} {tl th : TO} {ra : Option D} {rl rh : Option (Option Int)} (ho : SlLs K r f) (h : DV K env te ra) (hl : DO K env tl rl) (hh : DO K env th rh) :
    DL K env (tSl r te tl th) (slO f ra rl rh) := fun σ G H Q d s g e q => by
  obtain ⟨x, ex, e⟩ := bind_some e
  obtain ⟨lo, el, e⟩ := bind_some e
  obtain ⟨hi, eh, e⟩ := bind_some e
  refine h σ G H _ _ s g ex fun v G1 H1 E1 h1 => ?_
  refine hl σ G1 H1 _ _ (s.mono E1.gg) E1.gh el fun G2 H2 E2 => ?_
  refine hh σ G2 H2 _ _ (s.mono (E1.gg.trans E2.gg)) E2.gh eh fun G3 H3 E3 => ?_
  have E13 := (E1.trans E2).trans E3
  exact ho G3 H3 Q x lo hi d v E3.gh (dp_mono (E2.gg.trans E3.gg) x v h1) e fun p ys G4 H4 E4 hp gp hl hd => q p ys G4 H4 (E13.trans E4) (E13.hh.free hp) gp hl hd
def cutLs : D → Option Int → Option Int → Option (List D)
  | .list ds, lo, hi => some (cutD ds lo hi)
  | _, _, _ => none
theorem sl_ls : SlLs K (rSlL K) cutLs := fun G H Q x lo hi ds v g hx e q => by
  match x, hx, e with
  | .list es, .lst h1 h2, e =>
    cases e
    exact ⟨_, _, rfl, .inl (rd_mono g h1), fun p hp => q p _ G _ (Ext.own g hp) hp (g.free hp) upd_same (dpa_cut lo hi h2)⟩
def rSlX (K : PySem.W.Frag) : V → Option Int → Option Int → Hp → VK → Prop := fun x lo hi H Q => rSlL K x lo hi H Q ∨ rSlS x lo hi H Q
theorem sl_X {X : Cx} : SlR X (rSlX X.K) := sl_list.or sl_str
def slD : D → Option Int → Option Int → Option D
  | .list ds, lo, hi => some (.list (cutD ds lo hi))
  | .str z, lo, hi => if z.length ≤ sizeLine then some (.str (cutS z lo hi)) else none
  | _, _, _ => none
theorem sd_X : SlD K (rSlX K) slD := fun G H Q x lo hi d v g hx e q => by
  match x, hx, e with
  | .list es, .lst h1 h2, e =>
    cases e
    refine .inl ⟨_, _, rfl, .inl (rd_mono g h1), fun p hp => ?_⟩
    exact q _ _ _ (Ext.new g hp) (.lst (.inl upd_same) (dpa_mono (same_upd (g.free hp)) _ _ (dpa_cut lo hi h2)))
  | .str z, .str _, e =>
    replace e : (if z.length ≤ sizeLine then some (PyData.str (cutS z lo hi)) else none) = some d := e
    by_cases hz : z.length ≤ sizeLine
    · rw [if_pos hz] at e; cases e
      exact .inr ⟨z, rfl, hz, q _ G H (Ext.refl g) (.str _)⟩
    · rw [if_neg hz] at e; cases e
/-! built-ins -/
def lenD : List D → Option D
  | [.list ds] => some (.int ds.length)
  | [.tuple ds] => some (.int ds.length)
  | [.str z] => if z.length ≤ sizeLine then some (.int z.length) else none
  | _ => none
theorem cd_len : ClD K (fun xs H Q => ∃ x n, xs = [x] ∧ LenV K x H n ∧ Q (.int n) H) lenD := fun G H Q xs d vs g hx e q => by
  match xs, hx, e with
  | [.list ds], .cons (.lst h1 h2) .nil, e => cases e; exact ⟨_, _, rfl, .inl ⟨_, .inl (rd_mono g h1), (dpa_len h2).symm⟩, q _ G H (Ext.refl g) (.int _)⟩
  | [.tuple ds], .cons (.tup h1 h2) .nil, e => cases e; exact ⟨_, _, rfl, .inr ⟨_, sqt_mono g h1, (dpa_len h2).symm⟩, q _ G H (Ext.refl g) (.int _)⟩
  | [.str z], .cons (.str _) .nil, e =>
    replace e : (if z.length ≤ sizeLine then some (PyData.int z.length) else none) = some d := e
    by_cases hz : z.length ≤ sizeLine
    · rw [if_pos hz] at e; cases e
      exact ⟨_, _, rfl, ⟨hz, rfl⟩, q _ G H (Ext.refl g) (.int _)⟩
    · rw [if_neg hz] at e; cases e
def intTD : List D → Option D
  | [.int i] => some (.int i)
  | [.bool k] => some (.int (if k then 1 else 0))
  | [.str z] => if z.length ≤ 640 then (PySem.intText? z).map .int else none
  | _ => none
def rIntX : List V → Hp → VK → Prop := fun xs H Q => ((∃ i, xs = [.int i] ∧ Q (.int i) H) ∨ ∃ k, xs = [.bl k] ∧ Q (.int (if k then 1 else 0)) H) ∨ ∃ a n, xs = [.str a] ∧ PySem.intText? a = some n ∧ a.length ≤ 640 ∧ Q (.int n) H
theorem cr_intX {X : Cx} : CallR X (.type "int") rIntX := call_int1.or call_int_str
theorem cd_int : ClD K rIntX intTD := fun G H Q xs d vs g hx e q => by
  match xs, hx, e with
  | [.int i], .cons (.int _) .nil, e => cases e; exact .inl (.inl ⟨i, rfl, q _ G H (Ext.refl g) (.int _)⟩)
  | [.bool k], .cons (.bl _) .nil, e => cases e; exact .inl (.inr ⟨k, rfl, q _ G H (Ext.refl g) (.int _)⟩)
  | [.str z], .cons (.str _) .nil, e =>
    replace e : (if z.length ≤ 640 then (PySem.intText? z).map PyData.int else none) = some d := e
    by_cases hz : z.length ≤ 640
    · rw [if_pos hz] at e
      cases en : PySem.intText? z with
      | none => rw [en] at e; cases e
      | some n => rw [en] at e; cases e; exact .inr ⟨z, n, rfl, en, hz, q _ G H (Ext.refl g) (.int _)⟩
    · rw [if_neg hz] at e; cases e
def strTD : List D → Option D
  | [.int i] => if i.natAbs.log2 < 1920 then some (.str (toString i)) else none
  | _ => none
theorem cd_str : ClD K (fun xs H Q => ∃ i, xs = [.int i] ∧ i.natAbs.log2 < 1920 ∧ Q (.str (toString i)) H) strTD := fun G H Q xs d vs g hx e q => by
  match xs, hx, e with
  | [.int i], .cons (.int _) .nil, e =>
    replace e : (if i.natAbs.log2 < 1920 then some (PyData.str (toString i)) else none) = some d := e
    by_cases hz : i.natAbs.log2 < 1920
    · rw [if_pos hz] at e; cases e; exact ⟨i, rfl, hz, q _ G H (Ext.refl g) (.str _)⟩
    · rw [if_neg hz] at e; cases e
def absD : List D → Option D
  | [.int i] => some (.int (if i < 0 then -i else i))
  | _ => none
theorem cd_abs : ClD K (fun xs H Q => ∃ i, xs = [.int i] ∧ Q (.int (if i < 0 then -i else i)) H) absD := fun G H Q xs d vs g hx e q => by
  match xs, hx, e with
  | [.int i], .cons (.int _) .nil, e => cases e; exact ⟨i, rfl, q _ G H (Ext.refl g) (.int _)⟩
def boolsD : List D → Option (List Bool)
  | [] => some []
  | .bool b :: ds => (boolsD ds).map (b :: ·)
  | _ :: _ => none
def intsD : List D → Option (List Int)
  | [] => some []
  | .int b :: ds => (intsD ds).map (b :: ·)
  | _ :: _ => none
theorem map_some {α β : Type} {o : Option α} {f : α → β} {y : β} (h : o.map f = some y) : ∃ x, o = some x ∧ f x = y := by
  cases o with
  | none => cases h
  | some x => exact ⟨x, rfl, Option.some.inj h⟩
theorem bools_of {H : Hp} : ∀ {vs : List V} {ds : List D} {bs : List Bool}, DpAll K H vs ds → boolsD ds = some bs → vs = bs.map V.bl
  | _, _, _, .nil, e => by cases e; rfl
  | _, d :: ds, bs, .cons r t, e => by
    match d, r, e with
    | .bool b, .bl _, e =>
      obtain ⟨cs, e1, e2⟩ := map_some (show (boolsD ds).map (b :: ·) = some bs from e)
      rw [bools_of t e1, ← e2]; rfl
theorem ints_of {H : Hp} : ∀ {vs : List V} {ds : List D} {bs : List Int}, DpAll K H vs ds → intsD ds = some bs → vs = bs.map V.int
  | _, _, _, .nil, e => by cases e; rfl
  | _, d :: ds, bs, .cons r t, e => by
    match d, r, e with
    | .int b, .int _, e =>
      obtain ⟨cs, e1, e2⟩ := map_some (show (intsD ds).map (b :: ·) = some bs from e)
      rw [ints_of t e1, ← e2]; rfl
def allD : List D → Option D
  | [.list ds] => (boolsD ds).map fun bs => .bool (bs.all id)
  | _ => none
def anyD : List D → Option D
  | [.list ds] => (boolsD ds).map fun bs => .bool (bs.any id)
  | _ => none
def sumD : List D → Option D
  | [.list ds] => (intsD ds).map fun ns => .int ns.sum
  | _ => none
theorem cd_all : ClD K (rAll K) allD := fun G H Q xs d vs g hx e q => by
  match xs, hx, e with
  | [.list ds], .cons (.lst h1 h2) .nil, e =>
    obtain ⟨bs, e1, e2⟩ := map_some (show (boolsD ds).map (fun bs => PyData.bool (bs.all id)) = some d from e)
    subst e2
    exact ⟨_, bs, rfl, by rw [← bools_of h2 e1]; exact .inl (rd_mono g h1), q _ G H (Ext.refl g) (.bl _)⟩
theorem cd_any : ClD K (rAny K) anyD := fun G H Q xs d vs g hx e q => by
  match xs, hx, e with
  | [.list ds], .cons (.lst h1 h2) .nil, e =>
    obtain ⟨bs, e1, e2⟩ := map_some (show (boolsD ds).map (fun bs => PyData.bool (bs.any id)) = some d from e)
    subst e2
    exact ⟨_, bs, rfl, by rw [← bools_of h2 e1]; exact .inl (rd_mono g h1), q _ G H (Ext.refl g) (.bl _)⟩
theorem cd_sum : ClD K (rSum K) sumD := fun G H Q xs d vs g hx e q => by
  match xs, hx, e with
  | [.list ds], .cons (.lst h1 h2) .nil, e =>
    obtain ⟨bs, e1, e2⟩ := map_some (show (intsD ds).map (fun bs => PyData.int bs.sum) = some d from e)
    subst e2
    exact ⟨_, bs, rfl, by rw [← ints_of h2 e1]; exact .inl (rd_mono g h1), q _ G H (Ext.refl g) (.int _)⟩
def gcdD : List D → Option D
  | [.int a, .int b] => some (.int ((Nat.gcd a.natAbs b.natAbs : Nat) : Int))
  | _ => none
theorem cd_gcd : ClD K rGcd gcdD := fun G H Q xs d vs g hx e q => by
  match xs, hx, e with
  | [.int a, .int b], .cons (.int _) (.cons (.int _) .nil), e => cases e; exact ⟨a, b, rfl, q _ G H (Ext.refl g) (.int _)⟩
/-- list(x) -/
def listLs : List D → Option (List D)
  | [.list ds] => some ds
  | [.tuple ds] => some ds
  | _ => none
theorem cl_list : ClL K (fun xs H Q => ∃ p ys, xs = [.ref p] ∧ (SqL K H p ys ∨ SqT K H p ys) ∧ ∀ l, H l = none → Q (.ref l) (upd H l (.lst ys))) listLs := fun G H Q xs ds vs g hx e q => by
  match xs, hx, e with
  | [.list es], .cons (.lst h1 h2) .nil, e => cases e; exact ⟨_, _, rfl, .inl (.inl (rd_mono g h1)), fun p hp => q p _ G _ (Ext.own g hp) hp (g.free hp) upd_same h2⟩
  | [.tuple es], .cons (.tup h1 h2) .nil, e => cases e; exact ⟨_, _, rfl, .inr (sqt_mono g h1), fun p hp => q p _ G _ (Ext.own g hp) hp (g.free hp) upd_same h2⟩
/-- isinstance(x, T), T a built-in class -/
def tyN : D → String
  | .none => "NoneType"
  | .bool _ => "bool"
  | .int _ => "int"
  | .str _ => "str"
  | .list _ => "list"
  | .tuple _ => "tuple"
  | .dict _ => "dict"
def isT (T : String) (d : D) : Bool := match d with
  | .bool _ => T == "bool" || T == "int"
  | d => T == tyN d
theorem tyx_of {H : Hp} {v : V} {d : D} (h : Dp K H v d) : TyX K H v (.type (tyN d)) := by
  cases h with
  | non => exact .base .non
  | bl b => exact .base (.bl b)
  | int i => exact .base (.int i)
  | str z => exact .base (.str z)
  | lst h1 h2 =>
    rcases h1 with h | ⟨o, h⟩
    · exact .base (.lst h)
    · exact .base (.frz h)
  | tup h1 h2 =>
    rcases h1 with (h | ⟨o, h⟩) | ⟨o, its, n, hk, hc, _⟩
    · exact .base (.tup h)
    · exact .fTuple h
    · exact .kTuple hk hc
def okT (T : String) : Prop := ∀ d : D, kitB (tyN d) T = some (isT T d)
theorem okT_by {T : String} (h : (["NoneType", "bool", "int", "str", "list", "tuple", "dict"].all fun n => kitB n T == some (if n == "bool" then T == "bool" || T == "int" else T == n)) = true) : okT T := fun d => by
  have k : ∀ n ∈ ["NoneType", "bool", "int", "str", "list", "tuple", "dict"], kitB n T = some (if n == "bool" then T == "bool" || T == "int" else T == n) := fun n hn => eq_of_beq (List.all_eq_true.mp h n hn)
  cases d with
  | none => exact k "NoneType" (by decide)
  | bool b => exact k "bool" (by decide)
  | int i => exact k "int" (by decide)
  | str z => exact k "str" (by decide)
  | list a => exact k "list" (by decide)
  | tuple a => exact k "tuple" (by decide)
  | dict a => exact k "dict" (by decide)
theorem okT_int : okT "int" := okT_by (by decide +kernel)
theorem okT_bool : okT "bool" := okT_by (by decide +kernel)
theorem okT_str : okT "str" := okT_by (by decide +kernel)
theorem okT_list : okT "list" := okT_by (by decide +kernel)
theorem okT_tuple : okT "tuple" := okT_by (by decide +kernel)
def isO (T : String) (ra : Option D) : Option D := ra.bind fun d => some (.bool (isT T d))
theorem dv_isi {env : En} {te : TE} {ra : Option D} {T : String} (hT : okT T) (h : DV K env te ra) : DV K env (tCB (rIsi K) (tCons te (tCons (tC (.ty T)) tNil))) (isO T ra) := fun σ G H Q d s g e q => by
  obtain ⟨x, ex, e⟩ := bind_some e
  cases e
  refine h σ G H _ _ s g ex fun v G1 H1 E1 h1 => ?_
  exact ⟨v, _, _, _, isT T x, rfl, .ty T, tyx_of (dp_mono E1.gh x v h1), kit_ty (hT x), q _ G1 H1 E1 (.bl _)⟩
def negD : D → Option D
  | .int i => some (.int (-i))
  | _ => none
theorem ud_neg : UnD K (rU fun i => .int (-i)) negD := fun G H Q x d v g hx e q => by
  match x, hx, e with
  | .int i, .int _, e => cases e; exact ⟨i, rfl, q _ G H (Ext.refl g) (.int _)⟩
end
end Dl

set_option Elab.async false
set_option linter.all false
set_option maxRecDepth 100000
set_option maxHeartbeats 2000000
namespace Dl
open PySem PySem.Spec PyProof.Rows L2
/-! ### defs of the text -/
def env0 (n : Nat) (ds : List D) : En := ds.map Sl.sh ++ List.replicate (n - ds.length) Sl.un
/-- the def that the module calls x does what m says -/
structure Df (P : Program) (w : World) (K : PySem.W.Frag) (mg : Str → Option Value) (base : Heap) (k : Nat) (x : Str) (ps : List Str) (m : List D → Option D) : Prop where
  ex : ∃ f fd, mg x = some (.ref f) ∧ PySem.W.keepIn K (.ref f) = true ∧ Binds K fd ps [] ∧ FnOk P w K mg base CX0 k f fd ps (spD K m)
/-- the script's defs: the first argument the script -/
def spS (K : PySem.W.Frag) (m : List Int → List D → Option D) : Sp := fun vs H Q _ => ∃ (a : Addr) (ns : List Int) (ws : List V) (ds : List D) (d : D) (G : Hp), Same G H ∧ vs = .ref a :: ws ∧ SqL K G a (ns.map V.int) ∧ DpAll K G ws ds ∧ m ns ds = some d ∧ ∀ v G' H', Ext G H G' H' → Dp K G' v d → Q v H'
structure DfS (P : Program) (w : World) (K : PySem.W.Frag) (mg : Str → Option Value) (base : Heap) (k : Nat) (x : Str) (ps : List Str) (m : List Int → List D → Option D) : Prop where
  ex : ∃ f fd, mg x = some (.ref f) ∧ PySem.W.keepIn K (.ref f) = true ∧ Binds K fd ps [] ∧ FnOk P w K mg base CX0 k f fd ps (spS K m)
section
variable {P : Program} {w : World} {K : PySem.W.Frag} {mg : Str → Option Value} {base : Heap} {x qual : Str} {st : Stmt} {f : Addr} {fd : FuncData} {N ps : List Str} {k : Nat}
theorem df_mk {m : List D → Option D} (F : Fun K x qual st f fd) (S : FnScope N ps (defScope st)) (hm : mg x = some (.ref f)) (hb : Binds K fd ps []) (hl : ∀ ds d, m ds = some d → ds.length = ps.length) (hN : ps.length ≤ N.length)
    (body : ∀ (cdv : Value) (A : Around) (outer : List Env) (s : Shared) (H : Hp) (E : XK), Room k (A.deeper (envOfC qual (defScope st) s.heap.objs.size f cdv)) →
      ∃ t, PSs (cxOf CX0 P w K mg base N qual (defScope st) f cdv A outer s H E).nox (defBody st) t ∧
        ∀ ds d, m ds = some d → ∃ (β : Type) (eb : β → En) (α : Type) (en : α → En) (o : Out α β), DS K (env0 N.length ds) t en eb o ∧ o.run = some d) : Df P w K mg base (k + 1) x ps m := by
  refine ⟨f, fd, hm, F.kp, hb, ?_⟩
  refine F.ok S (fun vs H Q E h => ?_) fun cdv A outer s H vs Q E hr h => ?_
  · obtain ⟨G, ds, d, _, ha, e, _⟩ := h
    rw [dpa_len ha]; exact hl ds d e
  · obtain ⟨t, h1, h2⟩ := body cdv A outer s H E hr
    exact ⟨t, h1, fn_body h (fun ds d e => by rw [hl ds d e]; exact hN) h2⟩
theorem start_envS {G H : Hp} {a : Addr} {ns : List Int} {ws : List V} {ds : List D} (g : Same G H) (hs : SqL K G a (ns.map V.int)) (h : DpAll K G ws ds) (hn : ds.length + 1 ≤ N.length) :
    SS K (.sq ns :: env0 (N.length - 1) ds) (L2.start N (.ref a :: ws)) G H G G H := by
  have hl := dpa_len h
  obtain ⟨x, N', hx⟩ : ∃ x N', N = x :: N' := by
    cases N with
    | nil => simp at hn
    | cons x r => exact ⟨x, r, rfl⟩
  subst hx
  have hst : L2.start (x :: N') (.ref a :: ws) = some (.ref a) :: L2.start N' ws := by
    unfold L2.start; simp
  have s := start_env (K := K) (N := N') g h (by simp at hn; omega)
  rw [hst]
  have he : env0 ((x :: N').length - 1) ds = ds.map Sl.sh ++ List.replicate (N'.length - ds.length) Sl.un := by unfold env0; simp
  rw [he]
  refine ⟨s.ext, s.bg, by simp [s.len], fun i d hd => ?_, fun i es hd => ?_, fun i es hd => ?_, fun i j es fs l hij hi hj hl2 => ?_⟩
  · cases i with
    | zero => simp at hd
    | succ i => simpa using s.sh i d (by simpa using hd)
  · cases i with
    | zero => simp at hd
    | succ i => simpa using s.ow i es (by simpa using hd)
  · cases i with
    | zero => simp at hd; subst hd; exact ⟨a, rfl, hs⟩
    | succ i => simpa using s.sq i es (by simpa using hd)
  · cases i with
    | zero => simp at hi
    | succ i => cases j with
      | zero => simp at hj
      | succ j => simpa using s.di i j es fs l (by omega) (by simpa using hi) (by simpa using hj) (by simpa using hl2)
theorem fnS_mk {m : List Int → List D → Option D} (F : Fun K x qual st f fd) (S : FnScope N ps (defScope st)) (hl : ∀ ns ds d, m ns ds = some d → ds.length + 1 = ps.length) (hN : ps.length ≤ N.length)
    (body : ∀ (cdv : Value) (A : Around) (outer : List Env) (s : Shared) (H : Hp) (E : XK), Room k (A.deeper (envOfC qual (defScope st) s.heap.objs.size f cdv)) →
      ∃ t, PSs (cxOf CX0 P w K mg base N qual (defScope st) f cdv A outer s H E).nox (defBody st) t ∧
        ∀ ns ds d, m ns ds = some d → ∃ (β : Type) (eb : β → En) (α : Type) (en : α → En) (o : Out α β), DS K (.sq ns :: env0 (N.length - 1) ds) t en eb o ∧ o.run = some d) : FnOk P w K mg base CX0 (k + 1) f fd ps (spS K m) := by
  refine F.ok S (fun vs H Q E h => ?_) fun cdv A outer s H vs Q E hr h => ?_
  · obtain ⟨a, ns, ws, ds, d, G, _, rfl, _, ha, e, _⟩ := h
    rw [List.length_cons, dpa_len ha]; exact hl ns ds d e
  · obtain ⟨t, h1, h2⟩ := body cdv A outer s H E hr
    refine ⟨t, h1, ?_⟩
    obtain ⟨a, ns, ws, ds, d, G, g, rfl, hs, ha, e, q⟩ := h
    obtain ⟨β, eb, α, en, o, hd, ho⟩ := h2 ns ds d e
    refine hd _ G H G G H _ (start_envS g hs ha (by rw [hl ns ds d e]; exact hN)) ?_
    cases o with
    | nx a => cases ho; exact fun σ G' H' s => q .non G' H' s.ext .non
    | rt d' => cases ho; exact fun v G' H' E hv => q v G' H' E hv
    | bk b => cases ho
    | ct b => cases ho
    | no => cases ho
theorem dfS_mk {m : List Int → List D → Option D} (F : Fun K x qual st f fd) (S : FnScope N ps (defScope st)) (hm : mg x = some (.ref f)) (hb : Binds K fd ps []) (hl : ∀ ns ds d, m ns ds = some d → ds.length + 1 = ps.length) (hN : ps.length ≤ N.length)
    (body : ∀ (cdv : Value) (A : Around) (outer : List Env) (s : Shared) (H : Hp) (E : XK), Room k (A.deeper (envOfC qual (defScope st) s.heap.objs.size f cdv)) →
      ∃ t, PSs (cxOf CX0 P w K mg base N qual (defScope st) f cdv A outer s H E).nox (defBody st) t ∧
        ∀ ns ds d, m ns ds = some d → ∃ (β : Type) (eb : β → En) (α : Type) (en : α → En) (o : Out α β), DS K (.sq ns :: env0 (N.length - 1) ds) t en eb o ∧ o.run = some d) : DfS P w K mg base (k + 1) x ps m := ⟨f, fd, hm, F.kp, hb, fnS_mk F S hl hN body⟩
/-- the law's own promise, of the mirror's answer -/
theorem law_end {m : List Int → List D → Option D} {n : Nat} (h : ∀ ns : List Int, ns.length ≤ n → m ns [] = some (.bool true)) (H : Hp) (a : Addr) (ns : List Int) (hl : ns.length ≤ n) (hS : SqL K H a (ns.map V.int)) :
    spS K m [.ref a] H (fun v _ => v = .bl true) fun _ _ _ => False :=
  ⟨a, ns, [], [], .bool true, H, Same.refl H, rfl, hS, .nil, h ns hl, fun v G' H' E hv => by cases hv; rfl⟩
end
section
variable {X : Cx} {k : Nat} {x : Str} {ps : List Str} {e : Expr} {es : List Expr} {t : TA} {p pos : Pos}
theorem pe_df {m : List D → Option D} (d : Df X.prog X.w X.K X.mg X.base k x ps m) (hr : Room k X.A) (hg : Gl X x) (ha : PA X (e :: es) t) (hdb : (x == ("__debug__" : Str)) = false := by decide)
    (he : starEach (e :: es) X.env = (false, eval e X.env) :: starEach es X.env := by rfl) (hpl : (backTo pos (starEach es X.env)).any (·.1) = false := by rfl) :
    PE X (.Call (.Name x p) (e :: es) [] pos) (tCall (spD X.K m) [] E0 t) := by
  obtain ⟨f, fd, h1, h2, h3, h4⟩ := d.ex
  exact pe_call h4 hr hg h1 h2 h3 .nil pass0 ha hdb he hpl
theorem pe_df0 {m : List D → Option D} (d : Df X.prog X.w X.K X.mg X.base k x ps m) (hr : Room k X.A) (hg : Gl X x) (hdb : (x == ("__debug__" : Str)) = false := by decide) :
    PE X (.Call (.Name x p) [] [] pos) (tCall (spD X.K m) [] E0 tNil) := by
  obtain ⟨f, fd, h1, h2, h3, h4⟩ := d.ex
  exact pe_call0 h4 hr hg h1 h2 h3 .nil pass0 hdb
theorem pe_dfS {m : List Int → List D → Option D} (d : DfS X.prog X.w X.K X.mg X.base k x ps m) (hr : Room k X.A) (hg : Gl X x) (ha : PA X (e :: es) t) (hdb : (x == ("__debug__" : Str)) = false := by decide)
    (he : starEach (e :: es) X.env = (false, eval e X.env) :: starEach es X.env := by rfl) (hpl : (backTo pos (starEach es X.env)).any (·.1) = false := by rfl) :
    PE X (.Call (.Name x p) (e :: es) [] pos) (tCall (spS X.K m) [] E0 t) := by
  obtain ⟨f, fd, h1, h2, h3, h4⟩ := d.ex
  exact pe_call h4 hr hg h1 h2 h3 .nil pass0 ha hdb he hpl
end
theorem dv_callS {K : PySem.W.Frag} {env : En} {tA : TA} {rA : Option (List D)} {m : List Int → List D → Option D} {E : XK} (i : Nat) {ns : List Int} (h : DA K env tA rA) (hi : env[i]? = some (Sl.sq ns) := by rfl) :
    DV K env (tCall (spS K m) [] E (tCons (tVar i) tA)) (rA.bind (m ns)) := fun σ G H Q d s g e q => by
  obtain ⟨ds, e1, e2⟩ := bind_some e
  obtain ⟨a, h1, h2⟩ := s.sq i ns hi
  refine ⟨.ref a, h1, ?_⟩
  refine h σ G H _ ds s g e1 fun vs G1 H1 E1 hv => ?_
  exact ⟨a, ns, vs, ds, d, G1, E1.gh, by rw [List.append_nil], E1.gg.seq h2, hv, e2, fun u G3 H3 E3 h3 => q u G3 H3 (E1.trans E3) h3⟩
/-- a constant of the module -/
def Gc (K : PySem.W.Frag) (mg : Str → Option Value) (x : Str) (d : D) : Prop := ∃ u v, mg x = some u ∧ RelV v u ∧ ∀ G, Dp K G v d
/-- for x in (a new list of things without parts) -/
theorem ds_forL {K : PySem.W.Frag} {env : En} {te : TE} {rA : Option (List D)} {α β : Type} {eb : β → En} {tb : TS} {j : Nat} {e : α → En} {body : α → D → Out α α} {a0 : α}
    (hi : DL K env te rA) (h0 : Le (e a0) env) (hb : ∀ a x, DS K ((e a).set j (.sh x)) tb e e (body a x)) :
    DS K env (tFor (iList K te) (gName j) tb) e eb (forR body (atomsO rA) a0) := fun σ G0 H0 B G H T s q => by
  cases er : atomsO rA with
  | none => rw [er] at q; exact q.elim
  | some ds =>
    rw [er] at q
    obtain ⟨es, e1, e2⟩ := bind_some er
    by_cases z : es.all atom = true
    · rw [if_pos z] at e2; cases e2
      refine hi σ H H _ ds s.all (Same.refl H) e1 fun p xs G' H' E hp gp hl hd => ?_
      have gp0 : G p = none := s.ext.gh.free hp
      have E1 : Ext G H (upd G p (.lst xs)) H' := ⟨same_upd gp0, E.hh, fun b o eb => by
        by_cases zb : b = p
        · subst zb; rw [upd_same] at eb; rw [hl]; exact eb
        · rw [upd_ne zb] at eb; exact E.hh b o (s.ext.gh b o eb), fun b hb gb => by
        have : b ≠ p := fun zb => hb (by rw [zb]; exact hp)
        rw [upd_ne this]; exact gb⟩
      refine ⟨p, rfl, ⟨xs, .inl (.inl hl)⟩, ?_⟩
      have s1 := s.ext' E1
      -- as ds_forN from here: the list stands on G
      have hit : ItOk K (upd G p (.lst xs)) (Itl K p) ds := it_list (.inl (.inl upd_same)) (dpa_atom z hd)
      have := ds_forN (K := K) (env := env) (wi := fun σ' H' R => R (Itl K p) H') (tb := tb) (j := j) (e := e) (eb := eb) (body := body) (a0 := a0) (rI := some ds)
      obtain ⟨G2, s2, g2⟩ := s1.weak h0
      refine ⟨fun i m σ' H' => i ≤ ds.length ∧ m = ds.length - i ∧ ∃ (a : α) (G' : Hp), SS K (e a) σ' G0 H0 B G' H' ∧ Same (upd G p (.lst xs)) G' ∧ Post K e eb T G0 H0 B (forO body (ds.drop i) a : Out α β),
        ⟨ds.length, Nat.zero_le _, by omega, a0, G2, s2, g2, by rw [List.drop_zero]; exact q⟩, ?_⟩
      rintro i m σ' H3 ⟨hi', rfl, a, G3, s', g', pp⟩
      by_cases hlt : i < ds.length
      · right
        refine ⟨hit.go G3 H3 i g' s'.ext.gh hlt, fun σ'' H'' => ∃ m', m' < ds.length - i ∧ (i + 1 ≤ ds.length ∧ m' = ds.length - (i + 1) ∧ ∃ (a : α) (G' : Hp), SS K (e a) σ'' G0 H0 B G' H'' ∧ Same (upd G p (.lst xs)) G' ∧ Post K e eb T G0 H0 B (forO body (ds.drop (i + 1)) a : Out α β)), fun σ'' H'' h => h, fun x H4 hy => ?_⟩
        obtain ⟨G4, E4, hx⟩ := hit.yl G3 H3 i x H4 ds[i] g' s'.ext.gh (List.getElem?_eq_getElem hlt) hy
        have s4 := s'.ext' E4
        rw [drop_cons hlt] at pp
        unfold forO at pp
        have s5 := (s4.set j hx).base (Same.refl G4)
        refine hb a ds[i] _ G0 H0 G4 G4 H4 _ s5 ?_
        have gB : ∀ {G6 : Hp}, Same G4 G6 → Same B G6 := fun z => s4.bg.trans z
        have g1 : ∀ {G6 : Hp}, Same G4 G6 → Same (upd G p (.lst xs)) G6 := fun z => (g'.trans E4.gg).trans z
        cases ho : body a ds[i] with
        | nx c => rw [ho] at pp; exact fun σ6 G6 H6 s6 => ⟨_, by omega, hlt, rfl, c, G6, s6.base (gB s6.bg), g1 s6.bg, pp⟩
        | ct c => rw [ho] at pp; exact fun σ6 G6 H6 s6 => ⟨_, by omega, hlt, rfl, c, G6, s6.base (gB s6.bg), g1 s6.bg, pp⟩
        | bk c => rw [ho] at pp; exact fun σ6 G6 H6 s6 => pp σ6 G6 H6 (s6.base (gB s6.bg))
        | rt d => rw [ho] at pp; exact pp
        | no => rw [ho] at pp; exact pp
      · left
        have ei : i = ds.length := by omega
        subst ei
        rw [List.drop_length] at pp
        exact ⟨hit.stop G3 H3 _ g' s'.ext.gh (Nat.le_refl _), pp σ' G3 H3 s'⟩
    · rw [if_neg z] at e2; cases e2
end Dl

set_option Elab.async false
set_option linter.all false
set_option maxRecDepth 100000
set_option maxHeartbeats 2000000
namespace Dl
open PySem PySem.Spec PyProof.Rows L2
section
variable {K : PySem.W.Frag} {env : En} {to te : TE} {ra rb : Option D}
def strsD : List D → Option (List Str)
  | [] => some []
  | .str b :: ds => (strsD ds).map (b :: ·)
  | _ :: _ => none
theorem strs_of {H : Hp} : ∀ {vs : List V} {ds : List D} {bs : List Str}, DpAll K H vs ds → strsD ds = some bs → vs = bs.map V.str
  | _, _, _, .nil, e => by cases e; rfl
  | _, d :: ds, bs, .cons r t, e => by
    match d, r, e with
    | .str b, .str _, e =>
      obtain ⟨cs, e1, e2⟩ := map_some (show (strsD ds).map (b :: ·) = some bs from e)
      rw [strs_of t e1, ← e2]; rfl
theorem dpa_strs {H : Hp} : ∀ ns : List Str, DpAll K H (ns.map V.str) (ns.map PyData.str)
  | [] => .nil
  | n :: ns => .cons (.str n) (dpa_strs ns)
def joinD (x y : D) : Option D := match x, y with
  | .str a, .list ds => (strsD ds).bind fun ys => if (ys.map (·.length)).sum + ys.length * a.length ≤ 16777216 then some (.str (Txt.join a ys)) else none
  | .str a, .tuple ds => (strsD ds).bind fun ys => if (ys.map (·.length)).sum + ys.length * a.length ≤ 16777216 then some (.str (Txt.join a ys)) else none
  | _, _ => none
theorem dv_join (ho : DV K env to ra) (he : DV K env te rb) : DV K env (tM1 (fun x xs H Q => ∃ a p, ∃ ys : List Str, x = .str a ∧ xs = [.ref p] ∧ (SqL K H p (ys.map V.str) ∨ SqT K H p (ys.map V.str)) ∧
      (ys.map (·.length)).sum + ys.length * a.length ≤ 16777216 ∧ Q (.str (Txt.join a ys)) H) to te) (op2 joinD ra rb) := fun σ G H Q d s g e q => by
  obtain ⟨x, ex, e⟩ := bind_some e
  obtain ⟨y, ey, e⟩ := bind_some e
  refine ho σ G H _ x s g ex fun v G1 H1 E1 h1 => ?_
  match x, y, h1, e with
  | .str a, .list ds, .str _, e =>
    obtain ⟨ys, e1, e2⟩ := bind_some e
    by_cases hz : (ys.map (·.length)).sum + ys.length * a.length ≤ 16777216
    · rw [if_pos hz] at e2; cases e2
      refine ⟨⟨a, rfl⟩, he σ G1 H1 _ _ (s.mono E1.gg) E1.gh ey fun w G2 H2 E2 h2 => ?_⟩
      cases h2 with
      | lst hs hd => exact ⟨a, _, ys, rfl, rfl, .inl (.inl (rd_mono E2.gh (by rw [← strs_of hd e1]; exact hs))), hz, q _ G2 H2 (E1.trans E2) (.str _)⟩
    · rw [if_neg hz] at e2; cases e2
  | .str a, .tuple ds, .str _, e =>
    obtain ⟨ys, e1, e2⟩ := bind_some e
    by_cases hz : (ys.map (·.length)).sum + ys.length * a.length ≤ 16777216
    · rw [if_pos hz] at e2; cases e2
      refine ⟨⟨a, rfl⟩, he σ G1 H1 _ _ (s.mono E1.gg) E1.gh ey fun w G2 H2 E2 h2 => ?_⟩
      cases h2 with
      | tup hs hd => exact ⟨a, _, ys, rfl, rfl, .inr (sqt_mono E2.gh (by rw [← strs_of hd e1]; exact hs)), hz, q _ G2 H2 (E1.trans E2) (.str _)⟩
    · rw [if_neg hz] at e2; cases e2
def partitionD (x y : D) : Option D := match x, y with
  | .str a, .str b => if (b.length == 0) = false ∧ a.length ≤ sizeLine then some (.tuple [.str (Txt.partition a b).1, .str (Txt.partition a b).2.1, .str (Txt.partition a b).2.2]) else none
  | _, _ => none
theorem dv_partition (ho : DV K env to ra) (he : DV K env te rb) : DV K env (tM1 (fun x xs H Q => ∃ a b, x = .str a ∧ xs = [.str b] ∧ (b.length == 0) = false ∧ a.length ≤ sizeLine ∧
      ∀ p, H p = none → Q (.ref p) (upd H p (.tup [.str (Txt.partition a b).1, .str (Txt.partition a b).2.1, .str (Txt.partition a b).2.2]))) to te) (op2 partitionD ra rb) := fun σ G H Q d s g e q => by
  obtain ⟨x, ex, e⟩ := bind_some e
  obtain ⟨y, ey, e⟩ := bind_some e
  refine ho σ G H _ x s g ex fun v G1 H1 E1 h1 => ?_
  match x, y, h1, e with
  | .str a, .str b, .str _, e =>
    by_cases hz : (b.length == 0) = false ∧ a.length ≤ sizeLine
    · replace e : (if (b.length == 0) = false ∧ a.length ≤ sizeLine then some (PyData.tuple [.str (Txt.partition a b).1, .str (Txt.partition a b).2.1, .str (Txt.partition a b).2.2]) else none) = some d := e
      rw [if_pos hz] at e; cases e
      refine ⟨⟨a, rfl⟩, he σ G1 H1 _ _ (s.mono E1.gg) E1.gh ey fun w G2 H2 E2 h2 => ?_⟩
      cases h2
      refine ⟨a, b, rfl, rfl, hz.1, hz.2, fun p hp => ?_⟩
      exact q _ _ _ ((E1.trans E2).trans (Ext.new E2.gh hp)) (.tup (.inl (.inl upd_same)) (.cons (.str _) (.cons (.str _) (.cons (.str _) .nil))))
    · replace e : (if (b.length == 0) = false ∧ a.length ≤ sizeLine then some (PyData.tuple [.str (Txt.partition a b).1, .str (Txt.partition a b).2.1, .str (Txt.partition a b).2.2]) else none) = some d := e
      rw [if_neg hz] at e; cases e
def splitLs (x y : D) : Option (List D) := match x, y with
  | .str a, .str b => if (b.length == 0) = false ∧ a.length + 2 ≤ sizeLine then some ((Txt.split a b).map .str) else none
  | _, _ => none
theorem dl_split (ho : DV K env to ra) (he : DV K env te rb) : DL K env (tM1 (fun x xs H Q => ∃ a b, x = .str a ∧ xs = [.str b] ∧ (b.length == 0) = false ∧ a.length + 2 ≤ sizeLine ∧ rNewStrs (Txt.split a b) H Q) to te) (op2 splitLs ra rb) := fun σ G H Q d s g e q => by
  obtain ⟨x, ex, e⟩ := bind_some e
  obtain ⟨y, ey, e⟩ := bind_some e
  refine ho σ G H _ x s g ex fun v G1 H1 E1 h1 => ?_
  match x, y, h1, e with
  | .str a, .str b, .str _, e =>
    replace e : (if (b.length == 0) = false ∧ a.length + 2 ≤ sizeLine then some ((Txt.split a b).map PyData.str) else none) = some d := e
    by_cases hz : (b.length == 0) = false ∧ a.length + 2 ≤ sizeLine
    · rw [if_pos hz] at e; cases e
      refine ⟨⟨a, rfl⟩, he σ G1 H1 _ _ (s.mono E1.gg) E1.gh ey fun w G2 H2 E2 h2 => ?_⟩
      cases h2
      refine ⟨a, b, rfl, rfl, hz.1, hz.2, fun p hp => ?_⟩
      exact q p _ G2 _ ((E1.trans E2).trans (Ext.own E2.gh hp)) ((E1.trans E2).hh.free hp) (E2.gh.free hp) upd_same (dpa_strs _)
    · rw [if_neg hz] at e; cases e
/-- s.index(t), found -/
def idxD (x y : D) : Option D := match x, y with
  | .str a, .str b => (Txt.index0 a b).map fun k => .int (k : Nat)
  | _, _ => none
theorem dv_idxS (ho : DV K env to ra) (he : DV K env te rb) : DV K env (tBMS K "str" (rIndexX fun _ _ _ _ => False) to (tCons te tNil)) (op2 idxD ra rb) := fun σ G H Q d s g e q => by
  obtain ⟨x, ex, e⟩ := bind_some e
  obtain ⟨y, ey, e⟩ := bind_some e
  refine ho σ G H _ x s g ex fun v G1 H1 E1 h1 => ?_
  match x, y, h1, e with
  | .str a, .str b, .str _, e =>
    obtain ⟨k, e1, e2⟩ := map_some (show (Txt.index0 a b).map (fun k => PyData.int (k : Nat)) = some d from e)
    subst e2
    refine ⟨rfl, he σ G1 H1 _ _ (s.mono E1.gg) E1.gh ey fun w G2 H2 E2 h2 => ?_⟩
    cases h2
    refine ⟨a, b, rfl, rfl, fun k' hk => ?_, fun hn => ?_⟩
    · rw [e1] at hk; cases hk; exact q _ G2 H2 (E1.trans E2) (.int _)
    · rw [e1] at hn; cases hn
theorem pe_idxS {X : Cx} {o e : Expr} {apos cpos : Pos} (ho : PE X o to) (he : PE X e te) (hc : X.calm = true := by rfl)
    (hbase : attributeBase o "index" X.env (eval o X.env) = eval o X.env := by rfl)
    (hfew : ((backTo cpos (starEach (e :: []) X.env)).all (fun x => !x.1) && (backToKw cpos (keywordEach [] X.env)).all (fun x => x.1.isSome)
      && decide ((e :: []).length + ([] : List Keyword).length + (if ([] : List Keyword).isEmpty then 0 else 1) < 30)) = true := by rfl)
    (hline : (apos.endLine == cpos.line) = true := by rfl) (hs : starEach (e :: []) X.env = (false, eval e X.env) :: starEach [] X.env := by rfl) (hplain : (backTo cpos (starEach [] X.env)).any (·.1) = false := by rfl) :
    PE X (.Call (.Attribute o "index" apos) [e] [] cpos) (tBMS X.K "str" (rIndexX fun _ _ _ _ => False) to (tCons te tNil)) :=
  pe_bmS PySem.F.plainAttrs_str PySem.F.slot_str_index PySem.F.type_str_index (mt_indexX hc (fun u s' ⟨_, _, _, _, _, _, _, _, _, _, _, _, _, _, _, _, w⟩ => w.elim)) ho (pa_cons he pa_nil hs) hbase hfew hline hs hplain
theorem dl_lc2 {wi : TI} {tt : TT} {vs : List Nat} {i j : Nat} {rI : Option (List D)} {c : D → D → Option Bool} {f : D → D → Option D}
    (hi : DI K env wi rI) (hc : ∀ x y, DT K (((wipeE env vs).set i (.sh x)).set j (.sh y)) tt (c x y)) (hf : ∀ x y, DV K (((wipeE env vs).set i (.sh x)).set j (.sh y)) te (f x y)) (hts : i ∈ vs ∧ j ∈ vs := by decide) :
    DL K env (tLc wi (gTup K 2 (gCons (gName i) (gCons (gName j) gNil))) tt te vs) (rI.bind (lcZ (fun x => twoD x c none) (fun x => twoD x f none))) := by
  have key : ∀ {α : Type} (x : D) (env' : En) (k : D → D → α) (no : α), bTup 2 (bCons (fun env x => some (env.set i (.sh x))) (bCons (fun env x => some (env.set j (.sh x))) bNil)) (wipeE env vs) x = some env' → ∃ a b, x = .tuple [a, b] ∧ env' = ((wipeE env vs).set i (.sh a)).set j (.sh b) ∧ twoD x k no = k a b := fun x env' k no h => by
    match x, h with
    | .tuple [a, b], h => cases h; exact ⟨a, b, rfl, rfl, rfl⟩
    | .tuple [], h => cases h
    | .tuple [a], h => cases h
    | .tuple (a :: b :: c :: r), h =>
      unfold bTup at h
      simp at h
  refine dl_lc hi (bg_tup (bgs_cons (bg_name i) (bgs_cons (bg_name j) bgs_nil))) (by intro k hk; simp at hk; rcases hk with rfl | rfl; exact hts.1; exact hts.2) (fun x env' e => ?_) (fun x env' e => ?_) fun x y h => ?_
  · obtain ⟨a, b, rfl, rfl, h3⟩ := key x env' c none e
    rw [h3]; exact hc a b
  · obtain ⟨a, b, rfl, rfl, h3⟩ := key x env' f none e
    rw [h3]; exact hf a b
  · unfold twoD at h
    split at h
    · exact ⟨_, rfl⟩
    · cases h
end
section
variable {X : Cx}
def ipAddX : TIp := fun x y H Q => ipI (fun i j => i + j) x y H Q
theorem ip_addX : PIp X .Add (ipI fun i j => i + j) := ip_add
def addID : D → D → Option D := intD0 fun i j => .int (i + j)
theorem id_add {K : PySem.W.Frag} : IpD K (ipI fun i j => i + j) addID := od_rI0 (g := fun i j => .int (i + j)) fun _ _ _ => .int _
theorem id_sub {K : PySem.W.Frag} : IpD K (ipI fun i j => i - j) subD := od_rI0 (g := fun i j => .int (i - j)) fun _ _ _ => .int _
end
/-! the rules with K said (a comprehension's block is another context over the same K) -/
section
variable {X : Cx} (K : PySem.W.Frag)
theorem kEq (h : X.K = K := by rfl) (hu : X.A.units + 64 < cLine) : OpR X (compareOp .Eq) (rEqD K) := h ▸ op_eqD hu
theorem kNe (h : X.K = K := by rfl) (hu : X.A.units + 64 < cLine) : OpR X (compareOp .NotEq) (rNeD K) := h ▸ op_neD hu
theorem kIn (h : X.K = K := by rfl) : OpR X (compareOp .In) (rInX K false) := h ▸ op_inX
theorem kNotIn (h : X.K = K := by rfl) : OpR X (compareOp .NotIn) (rInX K true) := h ▸ op_notInX
theorem kIx (h : X.K = K := by rfl) : IxR X (rIx K) := h ▸ ix_seq
theorem kSl (h : X.K = K := by rfl) : SlR X (rSlX K) := h ▸ sl_X
theorem kSlL (h : X.K = K := by rfl) : SlR X (rSlL K) := h ▸ sl_list
theorem kLen (h : X.K = K := by rfl) : CallR X (.builtin "len") (fun xs H Q => ∃ x n, xs = [x] ∧ LenV K x H n ∧ Q (.int n) H) := h ▸ call_len
theorem kList (h : X.K = K := by rfl) : CallR X (.type "list") (fun xs H Q => ∃ p ys, xs = [.ref p] ∧ (SqL K H p ys ∨ SqT K H p ys) ∧ ∀ l, H l = none → Q (.ref l) (upd H l (.lst ys))) := h ▸ call_list_of
theorem kSum (h : X.K = K := by rfl) (hc : X.calm = true := by rfl) : CallR X (.builtin "sum") (rSum K) := h ▸ cr_sum hc
theorem kAll (h : X.K = K := by rfl) (hc : X.calm = true := by rfl) : CallR X (.builtin "all") (rAll K) := h ▸ cr_all hc
theorem kAny (h : X.K = K := by rfl) (hc : X.calm = true := by rfl) : CallR X (.builtin "any") (rAny K) := h ▸ cr_any hc
theorem kIsi (h : X.K = K := by rfl) : CallR X (.builtin "isinstance") (rIsi K) := h ▸ call_isi
theorem kiList {tg l : Expr} {tl : TE} (hl : PE X l tl) (h : X.K = K := by rfl) : PI X tg l (iList K tl) := h ▸ pi_list hl
theorem kiTup {tg l : Expr} {tl : TE} (hl : PE X l tl) (h : X.K = K := by rfl) : PI X tg l (iTup K tl) := h ▸ pi_tup hl
variable {k : Nat} {x : Str} {ps : List Str} {e : Expr} {es : List Expr} {t : TA} {p pos : Pos}
theorem kDf {m : List D → Option D} {P : Program} {w : World} {mg : Str → Option Value} {base : Heap} (d : Df P w K mg base k x ps m) (hr : Room k X.A) (hg : Gl X x) (ha : PA X (e :: es) t)
    (h1 : X.prog = P := by rfl) (h2 : X.w = w := by rfl) (h3 : X.K = K := by rfl) (h4 : X.mg = mg := by rfl) (h5 : X.base = base := by rfl) (hdb : (x == ("__debug__" : Str)) = false := by decide)
    (he : starEach (e :: es) X.env = (false, eval e X.env) :: starEach es X.env := by rfl) (hpl : (backTo pos (starEach es X.env)).any (·.1) = false := by rfl) :
    PE X (.Call (.Name x p) (e :: es) [] pos) (tCall (spD K m) [] E0 t) := by
  subst h1; subst h2; subst h3; subst h4; subst h5
  exact pe_df d hr hg ha hdb he hpl
theorem kDf0 {m : List D → Option D} {P : Program} {w : World} {mg : Str → Option Value} {base : Heap} (d : Df P w K mg base k x ps m) (hr : Room k X.A) (hg : Gl X x)
    (h1 : X.prog = P := by rfl) (h2 : X.w = w := by rfl) (h3 : X.K = K := by rfl) (h4 : X.mg = mg := by rfl) (h5 : X.base = base := by rfl) (hdb : (x == ("__debug__" : Str)) = false := by decide) :
    PE X (.Call (.Name x p) [] [] pos) (tCall (spD K m) [] E0 tNil) := by
  subst h1; subst h2; subst h3; subst h4; subst h5
  exact pe_df0 d hr hg hdb
theorem kDfS {m : List Int → List D → Option D} {P : Program} {w : World} {mg : Str → Option Value} {base : Heap} (d : DfS P w K mg base k x ps m) (hr : Room k X.A) (hg : Gl X x) (ha : PA X (e :: es) t)
    (h1 : X.prog = P := by rfl) (h2 : X.w = w := by rfl) (h3 : X.K = K := by rfl) (h4 : X.mg = mg := by rfl) (h5 : X.base = base := by rfl) (hdb : (x == ("__debug__" : Str)) = false := by decide)
    (he : starEach (e :: es) X.env = (false, eval e X.env) :: starEach es X.env := by rfl) (hpl : (backTo pos (starEach es X.env)).any (·.1) = false := by rfl) :
    PE X (.Call (.Name x p) (e :: es) [] pos) (tCall (spS K m) [] E0 t) := by
  subst h1; subst h2; subst h3; subst h4; subst h5
  exact pe_dfS d hr hg ha hdb he hpl
theorem kJoin {o : Expr} {to te : TE} {apos : Pos} (ho : PE X o to) (he : PE X e te) (h : X.K = K := by rfl) (hs : starEach [e] X.env = [(false, eval e X.env)] := by rfl) (hbase : attributeBase o "join" X.env (eval o X.env) = eval o X.env := by rfl) (hline : (apos.endLine == pos.line) = true := by rfl) :
    PE X (.Call (.Attribute o "join" apos) [e] [] pos) (tM1 (fun x xs H Q => ∃ a p, ∃ ys : List Str, x = .str a ∧ xs = [.ref p] ∧ (SqL K H p (ys.map V.str) ∨ SqT K H p (ys.map V.str)) ∧
      (ys.map (·.length)).sum + ys.length * a.length ≤ 16777216 ∧ Q (.str (Txt.join a ys)) H) to te) := h ▸ pe_join ho he hs hbase hline
end
theorem df_zero {P : Program} {w : World} {K : PySem.W.Frag} {mg : Str → Option Value} {base : Heap} {x qual : Str} {st : Stmt} {f : Addr} {fd : FuncData} {ps : List Str} {k : Nat} {m : List D → Option D} (F : Fun K x qual st f fd) (hm : mg x = some (.ref f)) (hb : Binds K fd ps []) (h0 : ∀ ds, m ds = none) : Df P w K mg base k x ps m := by
  refine ⟨f, fd, hm, F.kp, hb, ⟨fun vs H Q E h => ?_, fun A outer s H args us vs Q E hr he hb hv hs => ?_⟩⟩
  · obtain ⟨_, ds, _, _, _, e, _⟩ := h; rw [h0 ds] at e; cases e
  · obtain ⟨_, ds, _, _, _, e, _⟩ := hs; rw [h0 ds] at e; cases e
/-! what is walked: a list, a tuple, a text -/
def iAny (K : PySem.W.Frag) (te : TE) : TI := fun σ H R => iList K te σ H R ∨ iTup K te σ H R ∨ iStr te σ H R
theorem kiAny {X : Cx} (K : PySem.W.Frag) {tg l : Expr} {tl : TE} (hl : PE X l tl) (h : X.K = K := by rfl) : PI X tg l (iAny K tl) := by
  subst h
  refine ⟨fun pins s σ H R I hw => ?_⟩
  rcases hw with hw | hw | hw
  · exact (pi_list hl).run pins s σ H R I hw
  · exact (pi_tup hl).run pins s σ H R I hw
  · exact (pi_str hl).run pins s σ H R I hw
def iterD : D → Option (List D)
  | .list ds => some ds
  | .tuple ds => some ds
  | .str z => some (strD z)
  | _ => none
theorem di_any {K : PySem.W.Frag} {env : En} {te : TE} {ra : Option D} (h : DV K env te ra) : DI K env (iAny K te) (ra.bind iterD) := fun σ G H R ds s g e q => by
  obtain ⟨x, ex, e1⟩ := bind_some e
  match x, ex, e1 with
  | .list es, ex, e1 =>
    exact .inl (di_list h σ G H R ds s g (by rw [ex]; exact e1) q)
  | .tuple es, ex, e1 =>
    exact .inr (.inl (di_tup h σ G H R ds s g (by rw [ex]; exact e1) q))
  | .str z, ex, e1 =>
    exact .inr (.inr (di_str h σ G H R ds s g (by rw [ex]; exact e1) q))
/-! a product: of ints, of a text, of a list -/
def rMulS : R2 := fun x y H Q => ∃ (z : Str) (n : Int), x = .str z ∧ y = .int n ∧ (MulOk z n) ∧ Q (.str (Txt.mul z n)) H
theorem op_mulS {X : Cx} : OpR X (binaryOp .Mult) rMulS := by
  intro pins s σ H x y v u Q I rx ry h
  obtain ⟨z, n, rfl, rfl, hm, q⟩ := h
  obtain ⟨t, rfl⟩ := rx
  obtain ⟨t', rfl⟩ := ry
  exact PySem.SB.mul hm fun t' k => ⟨.str _, H, I.tok k, ⟨_, rfl⟩, q⟩
def rMulX : R2 := fun x y H Q => rI CMul (fun i j => .int (i * j)) x y H Q ∨ rMulS x y H Q
theorem op_mulX' {X : Cx} : OpR X (binaryOp .Mult) rMulX := op_mul.or op_mulS
def mulOkB (z : Str) (n : Int) : Bool := decide (0 ≤ n ∧ n ≤ 1000000 ∧ z.length * n.toNat ≤ 1000000)
theorem mulOk_of {z : Str} {n : Int} (h : mulOkB z n = true) : MulOk z n := by
  have h := of_decide_eq_true h
  obtain ⟨h0, h1, h2⟩ := h
  refine ⟨?_, fun hn hx hc => ?_, fun hn hx => ?_⟩
  · rw [Bool.or_eq_false_iff]; exact ⟨decide_eq_false (by omega), decide_eq_false (by omega)⟩
  · have hd : ((2 : Int) ^ 63 - 1) / n < z.length := hc
    have hn1 : 1 ≤ n.toNat := by omega
    have hz : z.length ≤ 1000000 := Nat.le_trans (Nat.le_mul_of_pos_right _ hn1) h2
    have h3 : (1000000 : Int) ≤ ((2 : Int) ^ 63 - 1) / n := Int.le_ediv_of_mul_le (by omega) (by
      have : (1000000 : Int) * n ≤ 1000000 * 1000000 := by omega
      exact Int.le_trans this (by decide))
    omega
  · show decide (z.length * n.toNat > sizeLine) = false
    have hs : (1000000 : Nat) ≤ sizeLine := by decide
    exact decide_eq_false (by omega)
def mulX : D → D → Option D
  | .int i, .int j => mulD (.int i) (.int j)
  | .str z, .int n => if mulOkB z n = true then some (.str (Txt.mul z n)) else none
  | _, _ => none
theorem od_mulX {K : PySem.W.Frag} : OpD K rMulX mulX := fun G H Q x y d v w g hx hy e q => by
  match x, y, hx, hy, e with
  | .int i, .int j, hx, hy, e => exact .inl (od_mul G H Q _ _ d v w g hx hy e q)
  | .str z, .int n, .str _, .int _, e =>
    replace e : (if mulOkB z n = true then some (PyData.str (Txt.mul z n)) else none) = some d := e
    by_cases hz : mulOkB z n = true
    · rw [if_pos hz] at e; cases e
      exact .inr ⟨z, n, rfl, rfl, mulOk_of hz, q _ G H (Ext.refl g) (.str _)⟩
    · rw [if_neg hz] at e; cases e
/-! == of plain values without looking at their form; else of data -/
def eqP : D → D → Option Bool
  | .int i, .int j => some (decide (i = j))
  | .str a, .str b => some (decide (a = b))
  | .bool a, .bool b => some (decide (a = b))
  | .none, .none => some true
  | .none, .int _ => some false
  | .none, .str _ => some false
  | .none, .bool _ => some false
  | .int _, .none => some false
  | .str _, .none => some false
  | .bool _, .none => some false
  | .int _, .str _ => some false
  | .str _, .int _ => some false
  | .bool _, .str _ => some false
  | .str _, .bool _ => some false
  | _, _ => none
def eqX (x y : D) : Option D := match eqP x y with
  | some b => some (.bool b)
  | none => eqD x y
def neX (x y : D) : Option D := match eqP x y with
  | some b => some (.bool (!b))
  | none => neD x y
theorem eqP_of {K : PySem.W.Frag} {G : Hp} {v w : V} : ∀ {x y : D} {b : Bool}, Dp K G v x → Dp K G w y → eqP x y = some b → scal v w = true ∧ decide (v = w) = b := fun {x y b} hx hy e => by
  cases hx <;> cases hy <;> first
    | (cases e; done)
    | (cases e; refine ⟨rfl, ?_⟩; simp)
    | (cases e; exact ⟨rfl, rfl⟩)
def rEqX (K : PySem.W.Frag) : R2 := fun x y H Q => rEq x y H Q ∨ rEqD K x y H Q
def rNeX (K : PySem.W.Frag) : R2 := fun x y H Q => rNe x y H Q ∨ rNeD K x y H Q
theorem kEqX {X : Cx} (K : PySem.W.Frag) (h : X.K = K := by rfl) (hu : X.A.units + 64 < cLine) : OpR X (compareOp .Eq) (rEqX K) := by subst h; exact op_eq.or (op_eqD hu)
theorem kNeX {X : Cx} (K : PySem.W.Frag) (h : X.K = K := by rfl) (hu : X.A.units + 64 < cLine) : OpR X (compareOp .NotEq) (rNeX K) := by subst h; exact op_ne.or (op_neD hu)
theorem od_eqX {K : PySem.W.Frag} : OpD K (rEqX K) eqX := fun G H Q x y d v w g hx hy e q => by
  unfold eqX at e
  cases ep : eqP x y with
  | none => rw [ep] at e; exact .inr (od_eq G H Q x y d v w g hx hy e q)
  | some b =>
    rw [ep] at e; cases e
    obtain ⟨h1, h2⟩ := eqP_of hx hy ep
    exact .inl ⟨h1, by rw [h2]; exact q _ G H (Ext.refl g) (.bl _)⟩
theorem od_neX {K : PySem.W.Frag} : OpD K (rNeX K) neX := fun G H Q x y d v w g hx hy e q => by
  unfold neX at e
  cases ep : eqP x y with
  | none => rw [ep] at e; exact .inr (od_ne G H Q x y d v w g hx hy e q)
  | some b =>
    rw [ep] at e; cases e
    obtain ⟨h1, h2⟩ := eqP_of hx hy ep
    exact .inl ⟨h1, by rw [h2]; exact q _ G H (Ext.refl g) (.bl _)⟩
/-- a def that no level holds: nothing is promised -/
theorem df_none {P : Program} {w : World} {K : PySem.W.Frag} {mg : Str → Option Value} {base : Heap} {x : Str} {ps : List Str} {k : Nat} {m : List D → Option D} (d : Df P w K mg base k x ps m) (j : Nat) : Df P w K mg base j x ps (fun _ => none) := by
  obtain ⟨f, fd, h1, h2, h3, h4⟩ := d.ex
  refine ⟨f, fd, h1, h2, h3, ⟨fun vs H Q E h => ?_, fun A outer s H args us vs Q E hr he hb hv hs => ?_⟩⟩
  · obtain ⟨_, _, _, _, _, e, _⟩ := h; cases e
  · obtain ⟨_, _, _, _, _, e, _⟩ := hs; cases e
end Dl

set_option Elab.async false
set_option linter.all false
set_option maxRecDepth 100000
set_option maxHeartbeats 2000000
namespace Dl
open PySem PySem.Spec PyProof.Rows L2
/-! ### lemmas about the mirrors' words -/
abbrev dInts (ns : List Int) : List D := ns.map PyData.int
theorem lcD_map {f : D → Option D} {g : D → D} : ∀ {xs : List D}, (∀ x ∈ xs, f x = some (g x)) → lcD (fun _ => some true) f xs = some (xs.map g)
  | [], _ => rfl
  | x :: xs, h => by
    unfold lcD
    rw [h x (by simp), lcD_map fun y hy => h y (by simp [hy])]
    rfl
theorem lcZ_map {f : D → Option D} {g : D → D} {xs : List D} (hz : xs.length ≤ 1000000) (h : ∀ x ∈ xs, f x = some (g x)) : lcZ (fun _ => some true) f xs = some (xs.map g) := by
  unfold lcZ
  rw [if_pos (Nat.le_trans hz (by decide)), lcD_map h]
theorem lcZ_id {xs : List D} (hz : xs.length ≤ 1000000) : lcZ (fun _ => some true) (fun v => some v) xs = some xs := by
  rw [lcZ_map (g := fun x => x) hz fun _ _ => rfl, List.map_id']
/-- a for without a way out -/
theorem forO_inv {α β : Type} {body : α → D → Out α α} {I : Nat → α → Prop} : ∀ {xs : List D} {k : Nat} {a : α}, I k a →
    (∀ i a x, xs[i]? = some x → I (k + i) a → ∃ b, (body a x = .nx b ∨ body a x = .ct b) ∧ I (k + i + 1) b) → ∃ b, (forO body xs a : Out α β) = .nx b ∧ I (k + xs.length) b
  | [], k, a, h, _ => ⟨a, rfl, h⟩
  | x :: xs, k, a, h, hs => by
    obtain ⟨b, hb, ib⟩ := hs 0 a x rfl h
    obtain ⟨c, hc, ic⟩ := forO_inv (β := β) (xs := xs) (k := k + 1) (a := b) (I := I) ib fun i a y hy hi => by
      have e : k + 1 + i = k + (i + 1) := by omega
      rw [e] at hi ⊢
      exact hs (i + 1) a y (by simpa using hy) hi
    refine ⟨c, ?_, ?_⟩
    · unfold forO
      rcases hb with hb | hb <;> (rw [hb]; exact hc)
    · have e : k + (x :: xs).length = k + 1 + xs.length := by simp; omega
      rw [e]; exact ic
theorem rngD_get {lo : Int} {n i : Nat} {x : D} (h : (rngD lo n)[i]? = some x) : i < n ∧ x = .int (lo + i) := by
  unfold rngD at h
  rw [List.getElem?_map] at h
  by_cases hl : i < n
  · rw [List.getElem?_range hl] at h
    exact ⟨hl, (Option.some.inj h).symm⟩
  · rw [List.getElem?_eq_none (by rw [List.length_range]; omega)] at h; cases h
theorem rngD_len {lo : Int} {n : Nat} : (rngD lo n).length = n := by unfold rngD; simp
theorem rng1D_is {n : Nat} (h : n ≤ 1000000) : rng1D [.int (n : Int)] = some (rngD 0 n) := by
  simp only [rng1D]
  rw [if_pos (okR_by (by omega)), Int.toNat_natCast]
theorem atI_ints {ns : List Int} {i : Int} (h0 : 0 ≤ i) (h1 : i < ns.length) : atI (dInts ns) i = some (.int (ns.getD i.toNat 0)) := by
  have hl : i.toNat < ns.length := by omega
  unfold atI ixN
  rw [List.length_map, if_pos h0, if_pos h1]
  show (List.map PyData.int ns)[i.toNat]? = _
  rw [List.getElem?_map, List.getElem?_eq_getElem hl, List.getD_eq_getElem?_getD, List.getElem?_eq_getElem hl]; rfl
theorem ixN_in {n : Nat} {i : Int} (h0 : 0 ≤ i) (h1 : i < n) : ixN n i = some i.toNat := by
  unfold ixN
  rw [if_pos h0, if_pos h1]
theorem setL_ints {ns : List Int} {i v : Int} (h0 : 0 ≤ i) (h1 : i < ns.length) : setL (dInts ns) (.int i) (.int v) = some (dInts (ns.set i.toNat v)) := by
  show (ixN (dInts ns).length i).map _ = _
  rw [List.length_map, ixN_in h0 h1]
  show some ((ns.map PyData.int).set i.toNat (.int v)) = some ((ns.set i.toNat v).map PyData.int)
  rw [List.map_set]
theorem mul_ok {i j : Int} (h : smallI j = true) : mulX (.int i) (.int j) = some (.int (i * j)) := by
  show (if (smallI i || smallI j) = true then some (PyData.int (i * j)) else none) = _
  rw [h, Bool.or_true, if_pos rfl]
theorem mod_ok {i j : Int} (h : 0 < j) : modD (.int i) (.int j) = some (.int (i % j)) := by
  show (if decide (0 < j) = true then some (PyData.int (i % j)) else none) = _
  rw [if_pos (decide_eq_true h)]
theorem fdiv_ok {i j : Int} (h : 0 < j ∧ j < 1073741824) : fdivD (.int i) (.int j) = some (.int (i / j)) := by
  show (if decide (0 < j ∧ j < 1073741824) = true then some (PyData.int (i / j)) else none) = _
  rw [if_pos (decide_eq_true h)]
theorem add_ok {i j : Int} : addD (.int i) (.int j) = some (.int (i + j)) := rfl
theorem sub_ok {i j : Int} : subD (.int i) (.int j) = some (.int (i - j)) := rfl
theorem addL_ok {ds : List D} {d : D} (h : ds.length < 1000000) : addL ds d = some (ds ++ [d]) := by
  unfold addL
  rw [if_pos (Nat.lt_of_lt_of_le h (by decide))]
theorem million_le : (1000000 : Nat) ≤ sizeLine := by decide
theorem szL_ok {ds : List D} (h : ds.length ≤ 1000000) : szL ds = some ds := if_pos (Nat.le_trans h million_le)
theorem tupD_ok {ds : List D} (h : ds.length ≤ 1000000) : tupD ds = some (.tuple ds) := if_pos (Nat.le_trans h million_le)
theorem szL_nil : szL [] = some [] := szL_ok (Nat.zero_le _)
theorem szL_one {a : D} : szL [a] = some [a] := szL_ok (show 1 ≤ 1000000 by decide)
theorem tupD_two {a b : D} : tupD [a, b] = some (.tuple [a, b]) := tupD_ok (show 2 ≤ 1000000 by decide)
theorem tupD_three {a b c : D} : tupD [a, b, c] = some (.tuple [a, b, c]) := tupD_ok (show 3 ≤ 1000000 by decide)
theorem dInts_app {a b : List Int} : dInts a ++ dInts b = dInts (a ++ b) := List.map_append.symm
theorem dInts_len {a : List Int} : (dInts a).length = a.length := List.length_map _
end Dl

set_option Elab.async false
set_option linter.all false
set_option maxRecDepth 100000
set_option maxHeartbeats 2000000
namespace Dl
open PySem PySem.Spec PyProof.Rows L2
/-! ### what a mirror's piece surely gives -/
def Ok {α : Type} (r : Option α) (P : α → Prop) : Prop := ∃ a, r = some a ∧ P a
theorem ok_some {α : Type} {a : α} {P : α → Prop} (h : P a) : Ok (some a) P := ⟨a, rfl, h⟩
theorem ok_imp {α : Type} {r : Option α} {P Q : α → Prop} (h : Ok r P) (k : ∀ a, P a → Q a) : Ok r Q := by
  obtain ⟨a, e, p⟩ := h; exact ⟨a, e, k a p⟩
theorem ok_bind {α β : Type} {r : Option α} {f : α → Option β} {P : α → Prop} {Q : β → Prop} (h : Ok r P) (k : ∀ a, P a → Ok (f a) Q) : Ok (Option.bind r f) Q := by
  obtain ⟨a, e, p⟩ := h; rw [e]; exact k a p
theorem ok_op2 {α : Type} {f : D → D → Option α} {ra rb : Option D} {P Q : D → Prop} {R : α → Prop} (h : Ok ra P) (k : Ok rb Q) (g : ∀ x y, P x → Q y → Ok (f x y) R) : Ok (op2 f ra rb) R := by
  obtain ⟨a, e, p⟩ := h; obtain ⟨b, e2, q⟩ := k; rw [e, e2]; exact g a b p q
theorem ok_cons {ra : Option D} {rA : Option (List D)} {P : D → Prop} {Q : List D → Prop} {R : List D → Prop} (h : Ok ra P) (k : Ok rA Q) (g : ∀ x xs, P x → Q xs → R (x :: xs)) : Ok (consO ra rA) R := by
  obtain ⟨a, e, p⟩ := h; obtain ⟨b, e2, q⟩ := k; rw [e, e2]; exact ⟨_, rfl, g a b p q⟩
/-- a step of a body -/
theorem run_step {α β γ : Type} {r : Option α} {k : α → Out γ β} {P : α → Prop} {d : D} (h : Ok r P) (g : ∀ a, P a → Out.run (k a) = some d) : Out.run (Out.bind (toO r) k) = some d := by
  obtain ⟨a, e, p⟩ := h; rw [e]; exact g a p
theorem run_ret {α β : Type} {r : Option D} {d : D} (h : r = some d) : Out.run (toR r : Out α β) = some d := by rw [h]; rfl
/-! kinds of data -/
def IntIn (lo hi : Int) (d : D) : Prop := ∃ i, d = .int i ∧ lo ≤ i ∧ i ≤ hi
def StrLe (n : Nat) (d : D) : Prop := ∃ z : Str, d = .str z ∧ z.length ≤ n
def AllOf (P : D → Prop) (n : Nat) (ds : List D) : Prop := ds.length = n ∧ ∀ d ∈ ds, P d
theorem in_int (i : Int) {lo hi : Int} (h : lo ≤ i ∧ i ≤ hi) : IntIn lo hi (.int i) := ⟨i, rfl, h⟩
theorem str_le {z : Str} {n : Nat} (h : z.length ≤ n) : StrLe n (.str z) := ⟨z, rfl, h⟩
theorem StrLe.mono {n m : Nat} {d : D} (h : StrLe n d) (k : n ≤ m) : StrLe m d := by
  obtain ⟨z, e, l⟩ := h; exact ⟨z, e, Nat.le_trans l k⟩
theorem add_in {a b c e : Int} {x y : D} (h : IntIn a b x) (k : IntIn c e y) : Ok (addD x y) (IntIn (a + c) (b + e)) := by
  obtain ⟨i, rfl, h1, h2⟩ := h; obtain ⟨j, rfl, k1, k2⟩ := k
  exact ⟨_, rfl, i + j, rfl, by omega, by omega⟩
theorem add_str {a b : Nat} {x y : D} (h : StrLe a x) (k : StrLe b y) (hz : a + b ≤ 1000000) : Ok (addD x y) (StrLe (a + b)) := by
  obtain ⟨i, rfl, h1⟩ := h; obtain ⟨j, rfl, k1⟩ := k
  refine ⟨.str (i ++ j), if_pos (Nat.le_trans (show i.length + j.length ≤ 1000000 by omega) million_le), i ++ j, rfl, ?_⟩
  have : (i ++ j).length = i.length + j.length := by rw [TL.len_tl, TL.len_tl, TL.len_tl, TL.tl_append, List.length_append]
  omega
theorem add_lst {P : D → Prop} {a b : Nat} {xs ys : List D} (h : AllOf P a xs) (k : AllOf P b ys) (hz : a + b ≤ 1000000) : Ok (addD (.list xs) (.list ys)) (fun d => ∃ zs, d = .list zs ∧ AllOf P (a + b) zs) := by
  refine ⟨.list (xs ++ ys), if_pos (Nat.le_trans (show xs.length + ys.length ≤ 1000000 by rw [h.1, k.1]; exact hz) million_le), _, rfl, by rw [List.length_append, h.1, k.1], fun d hd => ?_⟩
  rcases List.mem_append.mp hd with z | z
  · exact h.2 d z
  · exact k.2 d z
theorem mod_in {a b c e : Int} {x y : D} (h : IntIn a b x) (k : IntIn c e y) (hc : 0 < c) : Ok (modD x y) (IntIn 0 (e - 1)) := by
  obtain ⟨i, rfl, h1, h2⟩ := h; obtain ⟨j, rfl, k1, k2⟩ := k
  refine ⟨_, mod_ok (show 0 < j by omega), i % j, rfl, Int.emod_nonneg _ (by omega), ?_⟩
  have := Int.emod_lt_of_pos i (show 0 < j by omega)
  omega
theorem fdiv_in {a b : Int} {x : D} (h : IntIn a b x) {c : Int} (hc : 0 < c ∧ c < 1073741824) (ha : 0 ≤ a) : Ok (fdivD x (.int c)) (IntIn 0 b) := by
  obtain ⟨i, rfl, h1, h2⟩ := h
  refine ⟨_, fdiv_ok hc, i / c, rfl, Int.ediv_nonneg (by omega) (by omega), ?_⟩
  have : i / c ≤ i := Int.ediv_le_self _ (by omega)
  omega
theorem int_in {a b : Int} {x : D} (h : IntIn a b x) : Ok (intTD [x]) (IntIn a b) := by
  obtain ⟨i, rfl, h1⟩ := h; exact ⟨_, rfl, i, rfl, h1⟩
theorem ix_in {P : D → Prop} {n : Nat} {ds : List D} (h : AllOf P n ds) {y : D} {e : Int} (k : IntIn 0 e y) (he : e < n) : Ok (ixD (.list ds) y) P := by
  obtain ⟨i, rfl, h1, h2⟩ := k
  have hl : i.toNat < ds.length := by rw [h.1]; omega
  refine ⟨ds[i.toNat], ?_, h.2 _ (List.getElem_mem hl)⟩
  show atI ds i = _
  unfold atI
  rw [ixN_in h1 (by rw [h.1]; omega)]
  exact List.getElem?_eq_getElem hl
theorem all_nil {P : D → Prop} : AllOf P 0 [] := ⟨rfl, fun _ h => by cases h⟩
theorem all_cons {P : D → Prop} {n : Nat} {x : D} {xs : List D} (h : P x) (k : AllOf P n xs) : AllOf P (n + 1) (x :: xs) := ⟨congrArg (· + 1) k.1, fun d hd => by
  rcases List.mem_cons.mp hd with rfl | hd
  · exact h
  · exact k.2 d hd⟩
theorem ok_nil {P : D → Prop} : Ok (some ([] : List D)) (AllOf P 0) := ok_some all_nil
theorem ok_item {P : D → Prop} {n : Nat} {ra : Option D} {rA : Option (List D)} (h : Ok ra P) (k : Ok rA (AllOf P n)) : Ok (consO ra rA) (AllOf P (n + 1)) := ok_cons h k fun _ _ a b => all_cons a b
/-- a list display -/
theorem ok_list {P : D → Prop} {n : Nat} {rA : Option (List D)} (k : Ok rA (AllOf P n)) (hn : n ≤ 1000000) : Ok (newO (Option.bind rA szL)) (fun d => ∃ xs, d = .list xs ∧ AllOf P n xs) := by
  obtain ⟨xs, e, h⟩ := k
  rw [e]
  show Ok (newO (szL xs)) _
  rw [szL_ok (by rw [h.1]; exact hn)]
  exact ⟨_, rfl, xs, rfl, h⟩
theorem ok_one {f : List D → Option D} {ra : Option D} {P Q : D → Prop} (h : Ok ra P) (k : ∀ x, P x → Ok (f [x]) Q) : Ok (Option.bind (consO ra (some [])) f) Q := by
  obtain ⟨a, e, p⟩ := h; rw [e]; exact k a p
theorem sl_le {n : Nat} {x : D} (h : StrLe n x) (hn : n ≤ 1000000) (lo hi : Option Int) : Ok (slD x lo hi) (StrLe n) := by
  obtain ⟨z, rfl, l⟩ := h
  exact ⟨_, if_pos (Nat.le_trans (show z.length ≤ 1000000 by omega) million_le), _, rfl, Nat.le_trans (cutS_length z lo hi) l⟩
theorem ok_sl {n : Nat} {ra : Option D} {rl rh : Option (Option Int)} (h : Ok ra (StrLe n)) (hn : n ≤ 1000000) (hl : Ok rl fun _ => True) (hh : Ok rh fun _ => True) : Ok (slO slD ra rl rh) (StrLe n) := by
  obtain ⟨a, e, p⟩ := h; obtain ⟨lo, e2, _⟩ := hl; obtain ⟨hi, e3, _⟩ := hh
  rw [e, e2, e3]; exact sl_le p hn lo hi
theorem ok_part {ra : Option D} {a b : Int} (h : Ok ra (IntIn a b)) : Ok (Option.bind ra partD) fun _ => True := by
  obtain ⟨x, e, i, rfl, _⟩ := h; rw [e]; exact ⟨_, rfl, trivial⟩
theorem ok_no : Ok (some (none : Option Int)) fun _ => True := ⟨_, rfl, trivial⟩
theorem len_in {n : Nat} {x : D} (h : StrLe n x) (hn : n ≤ 1000000) : Ok (lenD [x]) (IntIn 0 n) := by
  obtain ⟨z, rfl, l⟩ := h
  exact ⟨_, if_pos (Nat.le_trans (show z.length ≤ 1000000 by omega) million_le), _, rfl, by omega, by omega⟩
/-- str of a small number -/
theorem strT_le {hi : Int} {x : D} (h : IntIn 0 hi x) {k : Nat} (hk : 0 < k) (h2 : hi < (10 ^ k : Nat)) (h3 : k ≤ 9) : Ok (strTD [x]) (StrLe k) := by
  obtain ⟨i, rfl, h0, h1⟩ := h
  have hb : i.natAbs < 2 ^ 1920 := by
    have e : (10 : Nat) ^ k ≤ 10 ^ 9 := Nat.pow_le_pow_right (by decide) h3
    have e2 : (10 : Nat) ^ 9 ≤ 2 ^ 1920 := Nat.le_trans (show (10 : Nat) ^ 9 ≤ 2 ^ 30 by decide) (Nat.pow_le_pow_right (by decide) (by decide))
    omega
  refine ⟨.str (toString i), if_pos ?_, _, rfl, ?_⟩
  · by_cases hz : i.natAbs = 0
    · rw [hz]; decide
    · exact (Nat.log2_lt hz).mpr hb
  · have e : i = ((i.toNat : Nat) : Int) := by omega
    rw [e, TL.len_tl, TL.tl_num]
    exact TL.numL_len hk (by omega)
end Dl

set_option Elab.async false
set_option linter.all false
set_option maxRecDepth 100000
set_option maxHeartbeats 2000000
namespace Dl
open PySem PySem.Spec PyProof.Rows L2
/-! ### repr of data, where nothing is being shown around -/
def rRepr (K : PySem.W.Frag) : List V → Hp → VK → Prop := fun xs H Q => ∃ (a : Addr) (d : D), xs = [.ref a] ∧ L2.Dp K H (.ref a) d ∧ d.showable = true ∧ d.hasDict = false ∧ d.shown.length ≤ sizeLine ∧ d.depth ≤ 60 ∧ Q (.str d.shown) H
theorem call_reprD {X : Cx} (hg : X.A.guards = some []) (hu : X.A.units + 64 < cLine) : CallR X (.builtin "repr") (rRepr X.K) := by
  intro pins s σ H xs us Q I r h
  obtain ⟨a, d, rfl, hd, hs, hno, hz, hdep, q⟩ := h
  obtain ⟨u, rfl, ru⟩ := vals1 r
  cases ru
  obtain ⟨as, rd⟩ := L2.Dp.reads I d _ _ hd rfl
  exact repr_of_reads' rd hs (fun e => by rw [hno] at e; cases e) hg (by omega) (fun _ _ e => e) (fun h' u tk hk => ⟨.str d.shown, H, I.kept hk, ⟨_, rfl⟩, q⟩) hz
theorem kRepr {X : Cx} (K : PySem.W.Frag) (hg : X.A.guards = some []) (hu : X.A.units + 64 < cLine) (h : X.K = K := by rfl) : CallR X (.builtin "repr") (rRepr K) := h ▸ call_reprD hg hu
def showB (d : D) : Bool := d.showable && !d.hasDict && decide (d.shown.length ≤ sizeLine) && decide (d.depth ≤ 60) && !(atom d)
def reprD : List D → Option D
  | [d] => if showB d = true then some (.str d.shown) else none
  | _ => none
theorem cd_repr {K : PySem.W.Frag} : ClD K (rRepr K) reprD := fun G H Q xs d vs g hx e q => by
  match xs, hx, e with
  | [x], .cons hv .nil, e =>
    replace e : (if showB x = true then some (PyData.str x.shown) else none) = some d := e
    by_cases hz : showB x = true
    · rw [if_pos hz] at e; cases e
      unfold showB at hz
      simp only [Bool.and_eq_true, Bool.not_eq_true', decide_eq_true_eq] at hz
      obtain ⟨⟨⟨⟨h1, h2⟩, h3⟩, h4⟩, h5⟩ := hz
      have key : ∀ a, Dp K G (.ref a) x → rRepr K [.ref a] H Q := fun a ha => ⟨a, x, rfl, dp_lay x _ (dp_mono g x _ ha), h1, h2, h3, h4, q _ G H (Ext.refl g) (.str _)⟩
      cases hv with
      | non => cases h5
      | bl b => cases h5
      | int i => cases h5
      | str z => cases h5
      | lst p1 p2 => exact key _ (.lst p1 p2)
      | tup p1 p2 => exact key _ (.tup p1 p2)
    · rw [if_neg hz] at e; cases e
/-! ### the law's def, run where nothing is being shown -/
section
variable {P : Program} {w : World} {K : PySem.W.Frag} {mg : Str → Option Value} {base : Heap} {x qual : Str} {st : Stmt} {f : Addr} {fd : FuncData} {N ps : List Str} {k : Nat}
/-- what is wanted of the law's def: as FnOk says, but only where no guard is up -/
def RunG (P : Program) (w : World) (K : PySem.W.Frag) (mg : Str → Option Value) (base : Heap) (k : Nat) (f : Addr) (fd : FuncData) (ps : List Str) (sp : Sp) : Prop :=
  ∀ (A : Around) (outer : List Env) (s : Shared) (H : Hp) (args : Args) (us : List Value) (vs : List V) (Q : VK) (E : XK), A.guards = some [] → Room k A → Env0 P w K mg base A outer s H → BindsTo s fd args (ps.zip us) → Vals vs us → sp vs H Q E →
    codeAny (model P w) A (.call (.ref f) args) (CR CX0 outer P w H s Q E) s
theorem runG_mk {sp : Sp} (F : Fun K x qual st f fd) (S : FnScope N ps (defScope st)) (hl : ∀ vs H Q E, sp vs H Q E → vs.length = ps.length)
    (body : ∀ (cdv : Value) (A : Around) (outer : List Env) (s : Shared) (H : Hp) (vs : List V) (Q : VK) (E : XK), A.guards = some [] → Room k (A.deeper (envOfC qual (defScope st) s.heap.objs.size f cdv)) → sp vs H Q E →
      ∃ t, PSs (cxOf CX0 P w K mg base N qual (defScope st) f cdv A outer s H E).nox (defBody st) t ∧ t { nx := fun _ H' => Q .non H', rt := Q } (L2.start N vs) H) : RunG P w K mg base (k + 1) f fd ps sp := by
  intro A outer s H args us vs Q E hg room env bnd rel prom
  obtain ⟨oc, od, kV, doc, pm, an, cdv, ct, osl, rfl, look, code⟩ := F.ex
  have inK : K.In s.heap := env.mod.kin.keeps fun b o e => (env.bs b o e).1
  have free := env.mod.nolimit.keeps fun b o e => (env.bs b o e).1
  have kinds : ∀ y ∈ ps.zip us, (defScope st).names.lookup y.1 = some .local ∨ ((defScope st).names.lookup y.1 = some .cell ∧ ((cellsFrom (s.heap.objs.size + 1) (defScope st).names []).lookup y.1).isSome = true) := by
    rintro ⟨n, v⟩ hy
    exact (S.par n (List.of_mem_zip hy).1).imp (fun q => q) fun q => ⟨q, PySem.W.cellsFrom_some _ _ _ (.inl q)⟩
  refine codeAny_call_function (args := args) room.depth (inK _ _ look) rfl S.co S.gen rfl (PySem.W.codeRec_of inK code) (bnd _ _ _ _ ?_)
  refine wpAny_newFunctionEnv_cells S.kind kinds fun env1 he s1 laid => ?_
  subst he
  refine ⟨free.keeps laid.toInCall.keep, codeAny_func ?_⟩
  obtain ⟨t, walked, wish⟩ := body cdv A outer s H vs Q E hg (room.deeper _) prom
  have start : Inv (cxOf CX0 P w K mg base N qual (defScope st) f cdv A outer s H E) [] (L2.start N vs) H s1 := inv_start S room.hd env (hl _ _ _ _ prom) rel laid
  have ends : ∀ {σ' : L2.St} {H' : Hp} {s' : Shared} {v : V} {u : Value}, Inv (cxOf CX0 P w K mg base N qual (defScope st) f cdv A outer s H E) [] σ' H' s' → RelV v u → Q v H' → CE outer P w H s Q u s' := fun J rv q => ⟨_, _, J.os, J.bare, J.base, J.hok, rv, q⟩
  apply wpAny_mono (walked.nox.run [] s1 (L2.start N vs) H _ start wish)
  · intro flow s' got
    cases flow with
    | ret u => obtain ⟨v, σ', H', J, rv, q⟩ := got; exact ends J rv q
    | next => obtain ⟨σ', H', J, q⟩ := got; exact ends (v := V.non) (u := Value.none) J rfl q
    | brk => obtain ⟨_, _, _, q⟩ := got; exact q.elim
    | cont => obtain ⟨_, _, _, q⟩ := got; exact q.elim
  · exact fun e s' q => q
end
end Dl

set_option Elab.async false
set_option linter.all false
set_option maxRecDepth 100000
set_option maxHeartbeats 2000000
namespace Dl
open PySem PySem.Spec PyProof.Rows L2
/-! ### the end of a law whose def may show data (repr): as L2.walk_of, from RunG -/
section
variable {P : Program} {w : World} {K : PySem.W.Frag} {mg mb : Str → Option Value} {k : Nat} {fa a : Addr} {fd : FuncData} {x : Str} {sp : Sp} {s1 : Shared} {vs : List Value} {ns : List Int}
abbrev LawDone (s1 : Shared) : Result → Shared → Prop := fun r s' => r = .ok (.ret (.bool true)) ∧ OldK s1.heap s'.heap ∧ s'.os = s1.os ∧ AllBare s'.gens
/-- from an abstract heap H in which at most the script is tracked, locked -/
theorem law_from (inK : K.In s1.heap) (glob : s1.heap.Ns mainGlobals mg) (blt : s1.heap.Ns builtinsNs mb) (boots : ∀ y : Str, y ≠ "__name__" → mb y = bootBuiltins y) (lim : s1.heap.NoLimit) (gens : s1.gens = #[])
    (room : Room k callerA) (run : ∀ base : Heap, K.In base → base.Ns mainGlobals mg → RunG P w K mg base k fa fd [x] sp) (bnd : ∀ (s : Shared) (u : Value), BindsTo s fd ⟨[u], []⟩ [(x, u)])
    (H : Hp) (only : Only H) (prom : sp [.ref a] H (fun v _ => v = .bl true) fun _ _ _ => False) (ok : HOk P w H s1.heap) (lst : ∀ b o es ep, s1.heap.get? b = some o → o.data = .dict es ep → H b = none) (kno : ∀ b o, K.lookup b = some o → H b = none) :
    codeAny (model P w) callerA (.call (.ref fa) ⟨[.ref a], []⟩) (LawDone s1) s1 := by
  -- the base: what is not tracked
  have hid : ∀ {b : Addr} {o : Obj}, s1.heap.get? b = some o → H b = none → (hidT s1.heap H).get? b = some o := fun e n => hidT_get e n
  have nsH : ∀ {b : Addr} {m : Str → Option Value}, s1.heap.Ns b m → (hidT s1.heap H).Ns b m := by
    rintro b m ⟨o, es, ep, e, d, r⟩
    exact ⟨o, es, ep, hid e (lst b o es ep e d), d, r⟩
  have inH : K.In (hidT s1.heap H) := fun b o e => hid (inK b o e) (kno b o e)
  obtain ⟨ml, l1, l2⟩ := lim
  have modH : Mod K mg (hidT s1.heap H) := ⟨inH, nsH glob, ⟨mb, nsH blt, boots⟩, ml, nsH l1, l2⟩
  have nofr : ∀ b ∈ frs ([] : List Env), H b = none := by intro b hb; cases hb
  have env : Env0 P w K mg (hidT s1.heap H) callerA [] s1 H := ⟨rfl, modH, fun b o e => of_hidT e, Nat.le_of_eq (hidT_size _ _), trivial, nofr, ok, .of_eq gens⟩
  have called := run _ inH (nsH glob) callerA [] s1 H ⟨[.ref a], []⟩ [.ref a] [.ref a] (fun v _ => v = .bl true) (fun _ _ _ => False) rfl room env (bnd s1 (.ref a)) (.cons rfl .nil) prom
  refine codeAny_mono called ?_
  intro r s2 got
  rcases r with e | fl
  · exact got.elim
  rcases fl with _ | _ | _ | u
  · exact got.elim
  · exact got.elim
  · exact got.elim
  · obtain ⟨v, H2, os2, bare2, un, ok2, rv, hv⟩ := got
    subst hv
    have hu : u = Value.bool true := rv
    subst hu
    refine ⟨rfl, OldK.of_keep ?_, os2, bare2⟩
    intro b o e
    rcases only b with none_ | ⟨ob, xs, lock⟩
    · exact un.keep b o e none_ (fun z => by cases z) (by simp)
    · have lock2 := un.frzs b ob _ lock
      obtain ⟨old, _⟩ := ok b _ lock
      obtain ⟨new, _⟩ := ok2 b _ lock2
      rw [e] at old
      cases old
      exact new
theorem law_callG (inK : K.In s1.heap) (glob : s1.heap.Ns mainGlobals mg) (blt : s1.heap.Ns builtinsNs mb) (boots : ∀ y : Str, y ≠ "__name__" → mb y = bootBuiltins y) (lim : s1.heap.NoLimit) (gens : s1.gens = #[])
    (here : s1.heap.get? a = some { cls := .type "list", data := .seq vs.toArray }) (are : IntsAre vs ns) (len : ns.length ≤ sizeLine) (room : Room k callerA)
    (run : ∀ base : Heap, K.In base → base.Ns mainGlobals mg → RunG P w K mg base k fa fd [x] sp) (bnd : ∀ (s : Shared) (u : Value), BindsTo s fd ⟨[u], []⟩ [(x, u)])
    (prom : ∀ H : Hp, Only H → SqL K H a (ns.map V.int) → sp [.ref a] H (fun v _ => v = .bl true) fun _ _ _ => False) :
    codeAny (model P w) callerA (.call (.ref fa) ⟨[.ref a], []⟩) (LawDone s1) s1 := by
  have vals := vals_ints are
  have same := are.length
  cases look : K.lookup a with
  | some o =>
    have there := inK a o look
    rw [here] at there
    cases there
    have only : Only (fun _ => none) := fun _ => .inl rfl
    refine law_from inK glob blt boots lim gens room run bnd (fun _ => none) only (prom _ only (.inr ⟨_, vs.toArray, _, look, rfl, rfl, rfl, ?_, ?_⟩)) ?_ (fun _ _ _ _ _ _ => rfl) fun _ _ _ => rfl
    · rw [List.size_toArray, same]; exact len
    · rw [List.toList_toArray]; exact vals
    · intro b u z; cases z
  | none =>
    let o1 : Obj := { cls := .type "list", data := .seq vs.toArray }
    let H1 : Hp := upd (fun _ => none) a (.frz o1 (.lst (ns.map V.int)))
    have at1 : H1 a = some (.frz o1 (.lst (ns.map V.int))) := upd_same
    have off : ∀ {b : Addr}, b ≠ a → H1 b = none := fun h => upd_ne h
    have only : Only H1 := by
      intro b
      by_cases e : b = a
      · subst e; exact .inr ⟨_, _, at1⟩
      · exact .inl (off e)
    refine law_from inK glob blt boots lim gens room run bnd H1 only (prom H1 only (.inl (.inr ⟨o1, at1⟩))) ?_ ?_ ?_
    · intro b u z
      by_cases e : b = a
      · subst e
        rw [at1] at z
        cases z
        exact ⟨here, by rw [List.length_map]; exact len, vs, _, vals, here⟩
      · rw [off e] at z; cases z
    · intro b o es ep e d
      by_cases h : b = a
      · subst h
        rw [here] at e
        cases e
        exact absurd (show Data.seq vs.toArray _ = Data.dict es ep from d) (by intro z; cases z)
      · exact off h
    · intro b o e
      by_cases h : b = a
      · subst h; rw [look] at e; cases e
      · exact off h
end
theorem walk_ofG {l : PySem.W.OpenLaw} {n k : Nat} {q : Program} {loose : List Str} {XP : (Str → Option Value) → Heap → Prop} {YP : World → Heap → Prop} {d : DefRec} {K : Params → PySem.W.Frag} {sp : World → Sp} {x : Str}
    (most : l.most = some n) (small : n ≤ sizeLine) (nodef : d.params.defaults = []) (room : Room k callerA)
    (inK : ∀ (w : World) (h : Heap), YP w h → (K w.params).In h)
    (F : ∀ (w : World) (mg : Str → Option Value) (fa : Addr) (h : Heap), (K w.params).In h → h.Ns mainGlobals mg → mg d.name = some (.ref fa) →
      ∃ fd : FuncData, (∀ (s : Shared) (u : Value), BindsTo s fd ⟨[u], []⟩ [(x, u)]) ∧ ∀ base : Heap, (K w.params).In base → base.Ns mainGlobals mg → RunG l.prog w (K w.params) mg base k fa fd [x] (sp w))
    (prom : ∀ (w : World) (H : Hp) (a : Addr) (ns : List Int), ns.length ≤ n → Only H → SqL (K w.params) H a (ns.map V.int) → sp w [.ref a] H (fun v _ => v = .bl true) fun _ _ _ => False) :
    PySem.W.WalkO q loose XP YP l.row.toRowW d [] (fun f vs => PySem.call f vs) := by
  apply Att.attach_call most nodef
  intro w s0 s1 mg mb fa o pm cd doc a vs ns G Y _ _ _ named obj hints len gens
  have KX := inK w _ Y
  obtain ⟨fd, bnd, run⟩ := F w mg fa _ KX G.T.g named
  exact law_callG KX G.T.g G.T.b G.T.builtins G.T.nolimit gens obj hints (Nat.le_trans len small) room run bnd fun H only hs => prom w H a ns len only hs
end Dl

set_option Elab.async false
set_option linter.all false
set_option maxRecDepth 100000
set_option maxHeartbeats 2000000
namespace Dl
open PySem PySem.Spec PyProof.Rows L2
/-! ### f-strings of texts and ints -/
def fmtD : D → Option D
  | .str z => if z.length ≤ sizeLine then some (.str z) else none
  | .int i => if i.natAbs.log2 < 1920 then some (.str (toString i)) else none
  | _ => none
section
variable {K : PySem.W.Frag} {env : En} {t te : TE} {ts : List TE} {ra re : Option D} {r : Str → Option Str}
theorem dv_fmt (h : DV K env te ra) : DV K env (tFmt te) (ra.bind fmtD) := fun σ G H Q d s g e q => by
  obtain ⟨x, ex, e⟩ := bind_some e
  refine h σ G H _ x s g ex fun v G1 H1 E1 h1 => ?_
  match x, h1, e with
  | .str z, .str _, e =>
    replace e : (if z.length ≤ sizeLine then some (PyData.str z) else none) = some d := e
    by_cases hz : z.length ≤ sizeLine
    · rw [if_pos hz] at e; cases e; exact .inl ⟨z, rfl, hz, q _ G1 H1 E1 (.str _)⟩
    · rw [if_neg hz] at e; cases e
  | .int i, .int _, e =>
    replace e : (if i.natAbs.log2 < 1920 then some (PyData.str (toString i)) else none) = some d := e
    by_cases hz : i.natAbs.log2 < 1920
    · rw [if_pos hz] at e; cases e; exact .inr ⟨i, rfl, hz, q _ G1 H1 E1 (.str _)⟩
    · rw [if_neg hz] at e; cases e
/-- the parts one behind the other -/
def DJ (K : PySem.W.Frag) (env : En) (ts : List TE) (r : Str → Option Str) : Prop := ∀ σ (G H : Hp) (Q : Str → Hp → Prop) acc z, SE K env σ G → Same G H → r acc = some z → (∀ G' H', Ext G H G' H' → Q z H') → tJs ts acc σ H Q
theorem dj_nil : DJ K env [] some := fun σ G H Q acc z s g e q => by
  cases e; exact q G H (Ext.refl g)
def catJ (acc : Str) (d : D) : Option Str := match d with
  | .str y => if (acc ++ y).length ≤ sizeLine then some (acc ++ y) else none
  | _ => none
def consJ (ra : Option D) (r : Str → Option Str) (acc : Str) : Option Str := (ra.bind (catJ acc)).bind r
theorem dj_cons (h : DV K env t ra) (k : DJ K env ts r) : DJ K env (t :: ts) (consJ ra r) := fun σ G H Q acc z s g e q => by
  obtain ⟨u, eu, e⟩ := bind_some e
  obtain ⟨x, ex, eu⟩ := bind_some eu
  refine h σ G H _ x s g ex fun v G1 H1 E1 h1 => ?_
  match x, h1, eu with
  | .str y, .str _, eu =>
    replace eu : (if (acc ++ y).length ≤ sizeLine then some (acc ++ y) else none) = some u := eu
    by_cases hz : (acc ++ y).length ≤ sizeLine
    · rw [if_pos hz] at eu; cases eu
      exact ⟨y, rfl, hz, k σ G1 H1 Q _ z (s.mono E1.gg) E1.gh e fun G2 H2 E2 => q G2 H2 (E1.trans E2)⟩
    · rw [if_neg hz] at eu; cases eu
def fsO (r : Option Str) : Option D := r.bind fun z => some (.str z)
theorem dv_fstr (h : DJ K env ts r) : DV K env (fun σ H Q => tJs ts Str.empty σ H fun out H1 => Q (.str out) H1) (fsO (r Str.empty)) := fun σ G H Q d s g e q => by
  obtain ⟨z, ez, e⟩ := bind_some e
  cases e
  exact h σ G H _ Str.empty z s g ez fun G1 H1 E1 => q _ G1 H1 E1 (.str _)
/-! ### {'a': 'b', ..}[e] -/
def dispT (kvs : List (Str × Str)) : List (TE × TE) := kvs.map fun kv => (tC (.str kv.1), tC (.str kv.2))
def dispK (kvs : List (Str × Str)) : List (Key × V) := kvs.map fun kv => (.inr kv.1, .str kv.2)
def getS (kvs : List (Str × Str)) (d : D) : Option D := match d with
  | .str z => match valV (mergeK [] (dispK kvs)) (.inr z) with
    | some (.str u) => some (.str u)
    | _ => none
  | _ => none
theorem pairs_run {σ : L2.St} : ∀ (kvs : List (Str × Str)) (H : Hp) (Q : List (V × V) → Hp → Prop), Q ((dispK kvs).map fun kv => (kV kv.1, kv.2)) H → tPairs (dispT kvs) σ H Q
  | [], H, Q, q => q
  | kv :: kvs, H, Q, q => pairs_run kvs H _ q
theorem dv_dispS {kvs : List (Str × Str)} (hz : kvs.length ≤ 15) (h : DV K env te re) : DV K env (tDGet (tDisp (dispT kvs)) te) (re.bind (getS kvs)) := fun σ G H Q d s g e q => by
  obtain ⟨x, ex, e⟩ := bind_some e
  intro p hp
  refine pairs_run kvs _ _ ⟨upd_same, dispK kvs, rfl, by unfold dispK; rw [List.length_map]; exact hz, ?_⟩
  have hp' : H p = none := hp
  rw [show upd (upd H p (.dK [])) p (.dK (mergeK [] (dispK kvs))) = upd H p (.dK (mergeK [] (dispK kvs))) from funext fun b => by
    by_cases z : b = p
    · subst z; rw [upd_same, upd_same]
    · rw [upd_ne z, upd_ne z, upd_ne z]]
  have E0 : Ext G H G (upd H p (.dK (mergeK [] (dispK kvs)))) := Ext.own g hp'
  refine h σ G _ _ x s E0.gh ex fun v G1 H1 E1 h1 => ?_
  match x, h1, e with
  | .str z, .str _, e =>
    replace e : (match valV (mergeK [] (dispK kvs)) (.inr z) with | some (.str u) => some (PyData.str u) | _ => none) = some d := e
    split at e
    · rename_i u hu
      cases e
      exact ⟨p, .str u, rfl, .inl ⟨_, .inr z, .of (E1.hh p _ upd_same), rfl, hu.symm⟩, q _ G1 H1 (E0.trans E1) (.str _)⟩
    · cases e
end
theorem kDget {X : Cx} {o i : Expr} {pos : Pos} {td ty : TE} (hu : X.A.units + 64 < cLine) (ho : PE X o td) (hi : PE X i ty) (hs : NoSl i) : PE X (.Subscript o i pos) (tDGet td ty) := pe_dget (by omega) ho hi hs
section
variable {K : PySem.W.Frag} {env : En} {rA : Option (List D)} {β : Type} {eb : β → En}
theorem ds_par3 {i j k : Nat} {ta : TA} (h : DA K (noOw env) ta rA) : DS K env (tPar3 i j k ta) (fun (p : D × D × D) => ((env.set i (.sh p.1)).set j (.sh p.2.1)).set k (.sh p.2.2)) eb (toO (threeO rA)) := fun σ G0 H0 B G H T s q => by
  cases e : threeO rA with
  | none => rw [e] at q; exact q.elim
  | some p =>
    rw [e] at q
    obtain ⟨ds, e1, e2⟩ := bind_some e
    match ds, e1, e2 with
    | [a, b, c], e1, e2 =>
      cases e2
      refine h σ G H _ _ s.shd s.ext.gh e1 fun vs G1 H1 E1 hv => ?_
      cases hv with
      | cons r t => cases t with
        | cons r2 t => cases t with
          | cons r3 t => cases t; exact ⟨_, _, _, rfl, q _ G1 H1 ((((s.ext' E1).set i r).set j r2).set k r3)⟩
end
/-! ### the law's def, where repr may be called -/
section
variable {P : Program} {w : World} {K : PySem.W.Frag} {mg : Str → Option Value} {base : Heap} {x qual : Str} {st : Stmt} {f : Addr} {fd : FuncData} {N ps : List Str} {k : Nat}
theorem runGS_mk {m : List Int → List D → Option D} (F : Fun K x qual st f fd) (S : FnScope N ps (defScope st)) (hl : ∀ ns ds d, m ns ds = some d → ds.length + 1 = ps.length) (hN : ps.length ≤ N.length)
    (body : ∀ (cdv : Value) (A : Around) (outer : List Env) (s : Shared) (H : Hp) (E : XK), A.guards = some [] → Room k (A.deeper (envOfC qual (defScope st) s.heap.objs.size f cdv)) →
      ∃ t, PSs (cxOf CX0 P w K mg base N qual (defScope st) f cdv A outer s H E).nox (defBody st) t ∧
        ∀ ns ds d, m ns ds = some d → ∃ (β : Type) (eb : β → En) (α : Type) (en : α → En) (o : Out α β), DS K (.sq ns :: env0 (N.length - 1) ds) t en eb o ∧ o.run = some d) : RunG P w K mg base (k + 1) f fd ps (spS K m) := by
  refine runG_mk F S (fun vs H Q E h => ?_) fun cdv A outer s H vs Q E hg hr h => ?_
  · obtain ⟨a, ns, ws, ds, d, G, _, rfl, _, ha, e, _⟩ := h
    rw [List.length_cons, dpa_len ha]; exact hl ns ds d e
  · obtain ⟨t, h1, h2⟩ := body cdv A outer s H E hg hr
    refine ⟨t, h1, ?_⟩
    obtain ⟨a, ns, ws, ds, d, G, g, rfl, hs, ha, e, q⟩ := h
    obtain ⟨β, eb, α, en, o, hd, ho⟩ := h2 ns ds d e
    refine hd _ G H G G H _ (start_envS g hs ha (by rw [hl ns ds d e]; exact hN)) ?_
    cases o with
    | nx a => cases ho; exact fun σ G' H' s => q .non G' H' s.ext .non
    | rt d' => cases ho; exact fun v G' H' E hv => q v G' H' E hv
    | bk b => cases ho
    | ct b => cases ho
    | no => cases ho
end
end Dl

set_option Elab.async false
set_option linter.all false
set_option maxRecDepth 100000
set_option maxHeartbeats 2000000
namespace Dl
open PySem PySem.Spec PyProof.Rows L2
/-! ### data that repr shows: the text's size is at most w, the depth at most p -/
def Sh (w p : Nat) (d : D) : Prop := d.showable = true ∧ d.hasDict = false ∧ d.leavesShort 13 = true ∧ d.bulk ≤ w ∧ d.depth ≤ p
theorem Sh.mono {w p w' p' : Nat} {d : D} (h : Sh w p d) (a : w ≤ w') (b : p ≤ p') : Sh w' p' d := ⟨h.1, h.2.1, h.2.2.1, Nat.le_trans h.2.2.2.1 a, Nat.le_trans h.2.2.2.2 b⟩
theorem sh_int {i : Int} (h0 : 0 ≤ i) (h1 : i < 1000000000) : Sh 0 0 (.int i) := by
  obtain ⟨d, e, z, rfl, hz⟩ := strT_le (x := .int i) (hi := 999999999) ⟨i, rfl, h0, by omega⟩ (k := 9) (by decide) (by decide) (by decide)
  replace e : (if i.natAbs.log2 < 1920 then some (PyData.str (toString i)) else none) = some (.str z) := e
  by_cases hl : i.natAbs.log2 < 1920
  · rw [if_pos hl] at e; cases e
    refine ⟨decide_eq_true hl, rfl, decide_eq_true (Nat.le_trans (Nat.le_of_eq ?_) (Nat.le_trans hz (by decide))), Nat.le_refl _, Nat.le_refl _⟩
    rfl
  · rw [if_neg hl] at e; cases e
theorem sh_in {lo hi : Int} {d : D} (h : IntIn lo hi d) (h0 : 0 ≤ lo) (h1 : hi < 1000000000) : Sh 0 0 d := by
  obtain ⟨i, rfl, a, b⟩ := h; exact sh_int (by omega) (by omega)
theorem sh_str {z : Str} {n : Nat} (hz : z.length ≤ n) (hc : ∀ c ∈ z.cps.toList, c < 16 ^ 8) : Sh n 0 (.str z) :=
  ⟨rfl, rfl, by rw [PyData.leavesShort]; exact List.all_eq_true.mpr fun c h => decide_eq_true (hc c h), hz, Nat.le_refl _⟩
theorem sh_all {w p : Nat} : ∀ {xs : List D}, (∀ d ∈ xs, Sh w p d) → PyData.showableAll xs = true ∧ PyData.hasDictAll xs = false ∧ PyData.leavesShortAll 13 xs = true ∧ PyData.bulkAll xs ≤ xs.length * (w + 1) ∧ PyData.depthAll xs ≤ p
  | [], _ => ⟨by rw [PyData.showableAll], by rw [PyData.hasDictAll], by rw [PyData.leavesShortAll], by rw [PyData.bulkAll]; exact Nat.zero_le _, by rw [PyData.depthAll]; exact Nat.zero_le _⟩
  | x :: xs, h => by
    obtain ⟨a1, a2, a3, a4, a5⟩ := h x (by simp)
    obtain ⟨b1, b2, b3, b4, b5⟩ := sh_all (xs := xs) fun d hd => h d (by simp [hd])
    refine ⟨by rw [PyData.showableAll, a1, b1]; rfl, by rw [PyData.hasDictAll, a2, b2]; rfl, by rw [PyData.leavesShortAll, a3, b3]; rfl, ?_, by rw [PyData.depthAll]; exact Nat.max_le.mpr ⟨a5, b5⟩⟩
    rw [PyData.bulkAll, List.length_cons, Nat.succ_mul]; omega
theorem sh_list {w p n : Nat} {xs : List D} (h : ∀ d ∈ xs, Sh w p d) (hl : xs.length ≤ n) : Sh (n * (w + 1)) (p + 1) (.list xs) := by
  obtain ⟨b1, b2, b3, b4, b5⟩ := sh_all h
  have := Nat.mul_le_mul_right (w + 1) hl
  exact ⟨by rw [PyData.showable]; exact b1, by rw [PyData.hasDict]; exact b2, by rw [PyData.leavesShort]; exact b3, by rw [PyData.bulk]; omega, by rw [PyData.depth]; omega⟩
theorem sh_tup {w p n : Nat} {xs : List D} (h : ∀ d ∈ xs, Sh w p d) (hl : xs.length ≤ n) : Sh (n * (w + 1)) (p + 1) (.tuple xs) := by
  obtain ⟨b1, b2, b3, b4, b5⟩ := sh_all h
  have := Nat.mul_le_mul_right (w + 1) hl
  exact ⟨by rw [PyData.showable]; exact b1, by rw [PyData.hasDict]; exact b2, by rw [PyData.leavesShort]; exact b3, by rw [PyData.bulk]; omega, by rw [PyData.depth]; omega⟩
/-- repr gives its text -/
theorem repr_ok {w p : Nat} {d : D} (h : Sh w p d) (ha : atom d = false) (hw : w ≤ 1000000) (hp : p ≤ 60) : reprD [d] = some (.str d.shown) := by
  obtain ⟨h1, h2, h3, h4, h5⟩ := h
  have hz : d.shown.length ≤ sizeLine := PyData.shown_fits_bulk (B := 13) (by decide) (by decide) h3 (Nat.le_trans h4 (Nat.le_trans hw (by decide)))
  have e : showB d = true := by
    unfold showB
    rw [h1, h2, ha, decide_eq_true hz, decide_eq_true (Nat.le_trans h5 hp)]; rfl
  show (if showB d = true then some (PyData.str d.shown) else none) = _
  rw [if_pos e]
end Dl

set_option Elab.async false
set_option linter.all false
set_option maxRecDepth 100000
set_option maxHeartbeats 4000000
namespace Lw
open PySem PySem.Spec PyProof.Rows L2 Dl
def topS (i : Nat) : Stmt := PySem.Challenge.pw_oddcrown_k10_sheets_are_written.main.body.getD i (.Pass ⟨0, 0, 0, 0⟩)
section
variable {P : Program} {w : World} {K : PySem.W.Frag} {mg : Str → Option Value} {base : Heap}
abbrev s__write_chance : Stmt := topS 3
abbrev N__write_chance : List Str := ["chance", "n", "d"]
theorem sc__write_chance : FnScope N__write_chance ["chance"] (defScope s__write_chance) := ⟨rfl, rfl, rfl, by decide +kernel, rfl, by decide +kernel, by decide +kernel⟩
def m__write_chance : List D → Option D
  | [a1] => Out.run (α := Unit) (β := Unit) (Out.bind (toO (twoO (Option.bind (some a1) asU))) fun (v2, v3) =>
 (toR (iteV (Option.bind (op2 eqX (some v3) (some (.int 1))) asB) (Option.bind (consO (some v2) (some [])) strTD) (fsO ((consJ (Option.bind (some v2) fmtD) (consJ (some (.str "/")) (consJ (Option.bind (some v3) fmtD) some))) PySem.Str.empty)))))
  | _ => none
theorem ok__write_chance {f : Addr} {fd : FuncData} (F : Fun K "_write_chance" "_write_chance" s__write_chance f fd) (hm : mg "_write_chance" = some (.ref f)) (n_str : mg "str" = none) : Df P w K mg base 1 "_write_chance" ["chance"] m__write_chance := by
  refine df_mk F sc__write_chance hm (F.binds fun _ _ _ _ _ _ us hl => match us, hl with | [_], _ => rfl) (fun ds d h => ?_) (by decide) fun cdv A outer s H E hr => ⟨_, pss_cons (ps_asg (pv 0) (pg_tup rfl (pgs_cons (pg_name (i := 1) sc__write_chance.nd rfl (Or.inl rfl)) (pgs_cons (pg_name (i := 2) sc__write_chance.nd rfl (Or.inl rfl)) (pgs_nil)))))
 (pss_one (ps_ret (pe_ifExp (pt_cmpR (kEqX K rfl hr.units) (pv 2) (pe_int) (nomark _)) (pe_callTy call_str_int (by rfl) n_str (by decide +kernel) (pa_cons (pv 1) (pa_nil))) (pe_joined (PJ.cons (pe_fmt (pv 1)) (PJ.cons (pe_str) (PJ.cons (pe_fmt (pv 2)) (PJ.nil)))))))), fun ds d h => ?_⟩
  · match ds, h with
    | [a1], h => rfl
  · match ds, h with
    | [a1], h => exact ⟨Unit, fun _ => [], Unit, fun _ => [], _, ds_seq (ds_unp (i := 1) (j := 2) (dv_var 0)) (fun (v2, v3) =>
 ds_ret (dv_ite (dt_test (dv_op od_eqX (dv_var 2) (dv_int 1))) (dv_cb cd_str (da_cons (dv_var 1) (da_nil))) (dv_fstr (dj_cons (dv_fmt (dv_var 1)) (dj_cons (dv_str _) (dj_cons (dv_fmt (dv_var 2)) (dj_nil))))))), h⟩
abbrev s__write_line : Stmt := topS 2
abbrev N__write_line : List Str := ["name", "place", "names", "mark", "kind", "branches", "words", "chance", "target"]
theorem sc__write_line : FnScope N__write_line ["name", "place", "names"] (defScope s__write_line) := ⟨rfl, rfl, rfl, by decide +kernel, rfl, by decide +kernel, by decide +kernel⟩
def m__write_line : List D → Option D
  | [a1, a2, a3] => Out.run (α := Unit) (β := Unit) (Out.bind (toO (threeO (Option.bind (some a2) asU))) fun (v4, v5, v6) =>
 (Out.bind (ifO (Option.bind (op2 eqX (some v5) (some (.str "draw"))) asB) (Out.bind (toO (op2 addD (newO (Option.bind (consO (some (.str "chance")) (some [])) szL)) (newO (Option.bind (Option.bind (some v6) iterD) (lcZ (fun x => twoD x (fun v9 v10 => (some true)) none) (fun x => twoD x (fun v9 v10 => (fsO ((consJ (Option.bind (Option.bind (consO (some v9) (some [])) m__write_chance) fmtD) (consJ (some (.str " ")) (consJ (Option.bind (op2 ixD (some a3) (some v10)) fmtD) some))) PySem.Str.empty))) none)))))) fun v8 => .nx v8) (Out.bind (toO (op2 addD (newO (Option.bind (consO (some v5) (some [])) szL)) (newO (Option.bind (Option.bind (some v6) iterD) (lcZ (fun v12 => (some true)) (fun v12 => (op2 ixD (some a3) (some v12)))))))) fun v11 => .nx v11)) fun s7 =>
 (toR (op2 addD (op2 joinD (some (.str " ")) (op2 addD (newO (Option.bind (consO (some a1) (consO (Option.bind (consO (some v4) (some [])) strTD) (some []))) szL)) (some s7))) (some (.str "\n"))))))
  | _ => none
theorem ok__write_line {f : Addr} {fd : FuncData} (F : Fun K "_write_line" "_write_line" s__write_line f fd) (hm : mg "_write_line" = some (.ref f)) (n_str : mg "str" = none) (D__write_chance : Df P w K mg base 1 "_write_chance" ["chance"] m__write_chance) : Df P w K mg base 2 "_write_line" ["name", "place", "names"] m__write_line := by
  refine df_mk F sc__write_line hm (F.binds fun _ _ _ _ _ _ us hl => match us, hl with | [_, _, _], _ => rfl) (fun ds d h => ?_) (by decide) fun cdv A outer s H E hr => ⟨_, pss_cons (ps_asg (pv 1) (pg_tup rfl (pgs_cons (pg_name (i := 3) sc__write_line.nd rfl (Or.inl rfl)) (pgs_cons (pg_name (i := 4) sc__write_line.nd rfl (Or.inl rfl)) (pgs_cons (pg_name (i := 5) sc__write_line.nd rfl (Or.inl rfl)) (pgs_nil))))))
 (pss_cons (ps_if (pt_cmpR (kEqX K rfl hr.units) (pv 4) (pe_str) (nomark _)) (pss_one (ps_set (i := 6) sc__write_line.nd rfl (Or.inl rfl) (pe_op op_addX (pe_lst (pa_cons (pe_str) (pa_nil))) (pe_lc (own := [("chance", 7), ("target", 8)]) (g := gTup K 2 (gCons (gName 7) (gCons (gName 8) gNil))) rfl sc__write_line.nd (kiAny K (pv 5)) (blkOk_by (N := N__write_line) (sc := defScope s__write_line) (own := [("chance", 7), ("target", 8)]) (by decide +kernel)) (fun _ _ _ _ _ => pg_tup rfl (pgs_cons (pg_name (i := 7) sc__write_line.nd rfl (Or.inl rfl)) (pgs_cons (pg_name (i := 8) sc__write_line.nd rfl (Or.inl rfl)) pgs_nil))) (fun _ _ _ _ _ => pts_nil) (fun _ _ _ _ _ => pe_joined (PJ.cons (pe_fmt (kDf K D__write_chance (hr.mono (by decide)) (by rfl) (pa_cons (pv 7) (pa_nil)))) (PJ.cons (pe_str) (PJ.cons (pe_fmt (pe_ix (kIx K) (pv 2) (pv 8) (fun _ _ => rfl))) (PJ.nil))))))))) (pss_one (ps_set (i := 6) sc__write_line.nd rfl (Or.inl rfl) (pe_op op_addX (pe_lst (pa_cons (pv 4) (pa_nil))) (pe_lc (own := [("target", 8)]) (g := gName 8) rfl sc__write_line.nd (kiAny K (pv 5)) (blkOk_by (N := N__write_line) (sc := defScope s__write_line) (own := [("target", 8)]) (by decide +kernel)) (fun _ _ _ _ _ => pg_name (i := 8) sc__write_line.nd rfl (Or.inl rfl)) (fun _ _ _ _ _ => pts_nil) (fun _ _ _ _ _ => pe_ix (kIx K) (pv 2) (pv 8) (fun _ _ => rfl)))))))
 (pss_one (ps_ret (pe_op op_addX (kJoin K (pe_str) (pe_op op_addX (pe_lst (pa_cons (pv 0) (pa_cons (pe_callTy call_str_int (by rfl) n_str (by decide +kernel) (pa_cons (pv 3) (pa_nil))) (pa_nil)))) (pv 6))) (pe_str))))), fun ds d h => ?_⟩
  · match ds, h with
    | [a1, a2, a3], h => rfl
  · match ds, h with
    | [a1, a2, a3], h => exact ⟨Unit, fun _ => [], Unit, fun _ => [], _, ds_seq (ds_unp3 (i := 3) (j := 4) (k := 5) (dv_var 1)) (fun (v4, v5, v6) =>
 ds_seq (ds_if (en := fun (s7 : D) => [.sh a1, .sh a2, .sh a3, .sh v4, .sh v5, .sh v6, .sh s7, .un, .un]) (dt_test (dv_op od_eqX (dv_var 4) (dv_str _))) (ds_end (ec := (fun (s7 : D) => [.sh a1, .sh a2, .sh a3, .sh v4, .sh v5, .sh v6, .sh s7, .un, .un])) (g := fun v8 => v8) (fun v8 => Le.cons (.refl _) (Le.cons (.refl _) (Le.cons (.refl _) (Le.cons (.refl _) (Le.cons (.refl _) (Le.cons (.refl _) (Le.cons (.refl _) (Le.cons (.refl _) (Le.cons (.refl _) (Le.nil)))))))))) (ds_set (i := 6) (dv_op od_add (dv_new (dl_lst (da_cons (dv_str _) (da_nil)))) (dv_new (dl_lc2 (i := 7) (j := 8) (di_any (dv_var 5)) (fun v9 v10 => dt_yes) (fun v9 v10 => dv_fstr (dj_cons (dv_fmt (dv_call (da_cons (dv_var 7) (da_nil)))) (dj_cons (dv_str _) (dj_cons (dv_fmt (dv_op od_ix (dv_var 2) (dv_var 8))) (dj_nil)))))))))) (ds_end (ec := (fun (s7 : D) => [.sh a1, .sh a2, .sh a3, .sh v4, .sh v5, .sh v6, .sh s7, .un, .un])) (g := fun v11 => v11) (fun v11 => Le.cons (.refl _) (Le.cons (.refl _) (Le.cons (.refl _) (Le.cons (.refl _) (Le.cons (.refl _) (Le.cons (.refl _) (Le.cons (.refl _) (Le.cons (.refl _) (Le.cons (.refl _) (Le.nil)))))))))) (ds_set (i := 6) (dv_op od_add (dv_new (dl_lst (da_cons (dv_var 4) (da_nil)))) (dv_new (dl_lcN (j := 8) (di_any (dv_var 5)) (fun v12 => dt_yes) (fun v12 => dv_op od_ix (dv_var 2) (dv_var 8)))))))) (fun s7 =>
 ds_ret (dv_op od_add (dv_join (dv_str _) (dv_op od_add (dv_new (dl_lst (da_cons (dv_var 0) (da_cons (dv_cb cd_str (da_cons (dv_var 3) (da_nil))) (da_nil))))) (dv_var 6))) (dv_str _)))), h⟩
abbrev s_write_sheet : Stmt := topS 1
abbrev N_write_sheet : List Str := ["game", "names", "name", "place"]
theorem sc_write_sheet : FnScope N_write_sheet ["game", "names"] (defScope s_write_sheet) := ⟨rfl, rfl, rfl, by decide +kernel, rfl, by decide +kernel, by decide +kernel⟩
def m_write_sheet : List D → Option D
  | [a1, a2] => Out.run (α := Unit) (β := Unit) (toR (op2 joinD (some (.str "")) (newO (Option.bind (Option.bind (consO (some a2) (consO (some a1) (some []))) zip2D) (lcZ (fun x => twoD x (fun v3 v4 => (some true)) none) (fun x => twoD x (fun v3 v4 => (Option.bind (consO (some v3) (consO (some v4) (consO (some a2) (some [])))) m__write_line)) none))))))
  | _ => none
theorem ok_write_sheet {f : Addr} {fd : FuncData} (F : Fun K "write_sheet" "write_sheet" s_write_sheet f fd) (hm : mg "write_sheet" = some (.ref f)) (n_zip : mg "zip" = none) (D__write_line : Df P w K mg base 2 "_write_line" ["name", "place", "names"] m__write_line) : Df P w K mg base 3 "write_sheet" ["game", "names"] m_write_sheet := by
  refine df_mk F sc_write_sheet hm (F.binds fun _ _ _ _ _ _ us hl => match us, hl with | [_, _], _ => rfl) (fun ds d h => ?_) (by decide) fun cdv A outer s H E hr => ⟨_, pss_one (ps_ret (kJoin K (pe_str) (pe_lc (own := [("name", 2), ("place", 3)]) (g := gTup K 2 (gCons (gName 2) (gCons (gName 3) gNil))) rfl sc_write_sheet.nd (pi_zip (by rfl) n_zip (pa_cons (pv 1) (pa_cons (pv 0) (pa_nil)))) (blkOk_by (N := N_write_sheet) (sc := defScope s_write_sheet) (own := [("name", 2), ("place", 3)]) (by decide +kernel)) (fun _ _ _ _ _ => pg_tup rfl (pgs_cons (pg_name (i := 2) sc_write_sheet.nd rfl (Or.inl rfl)) (pgs_cons (pg_name (i := 3) sc_write_sheet.nd rfl (Or.inl rfl)) pgs_nil))) (fun _ _ _ _ _ => pts_nil) (fun _ _ _ _ _ => kDf K D__write_line (hr.mono (by decide)) (by rfl) (pa_cons (pv 2) (pa_cons (pv 3) (pa_cons (pv 1) (pa_nil)))))))), fun ds d h => ?_⟩
  · match ds, h with
    | [a1, a2], h => rfl
  · match ds, h with
    | [a1, a2], h => exact ⟨Unit, fun _ => [], Unit, fun _ => [], _, ds_ret (dv_join (dv_str _) (dv_new (dl_lc2 (i := 2) (j := 3) (di_zip (da_cons (dv_var 1) (da_cons (dv_var 0) (da_nil)))) (fun v3 v4 => dt_yes) (fun v3 v4 => dv_call (da_cons (dv_var 2) (da_cons (dv_var 3) (da_cons (dv_var 1) (da_nil)))))))), h⟩
abbrev s__law_draws : Stmt := topS 5
abbrev N__law_draws : List Str := ["script", "count", "rests", "draws", "k", "value", "at", "mixed", "cell"]
theorem sc__law_draws : FnScope N__law_draws ["script", "count"] (defScope s__law_draws) := ⟨rfl, rfl, rfl, by decide +kernel, rfl, by decide +kernel, by decide +kernel⟩
def b__law_draws_1  : List D × List D → D → Out (List D × List D) (List D × List D) :=
  fun (s7, s8) v9 => (Out.bind (toO (some (.int 0))) fun v10 =>
 (Out.bind (ifO (Option.bind (op2 gtD (Option.bind (consO (some (.list s7)) (some [])) lenD) (some (.int 0))) asB) (Out.bind (toO (atomO (op2 modD (Option.bind (consO (some v9) (some [])) intTD) (Option.bind (consO (some (.list s7)) (some [])) lenD)))) fun v13 =>
 (Out.bind (ifO (Option.bind (op2 geD (op2 ixD (some (.list s7)) (some v13)) (op2 powD (some (.int 10)) (some (.int 18)))) asB) (Out.bind (toO (atomO (op2 modD (Option.bind (consO (op2 ixD (some (.list s7)) (some v13)) (some [])) intTD) (some (.int 1000))))) fun v16 =>
 (Out.bind (toO (setIO s7 (op2 fdivD (op2 ixD (some (.list s7)) (some v13)) (some (.int 1000))) (some v13))) fun v17 => .nx (v16, v17))) (Out.bind (toO (atomO (op2 modD (Option.bind (consO (op2 addD (op2 addD (op2 mulX (op2 ixD (some (.list s7)) (some v13)) (some (.int 48271))) (op2 mulX (some v9) (some (.int 69621)))) (some (.int 11))) (some [])) intTD) (some (.int 2147483647))))) fun v18 =>
 (Out.bind (toO (op2 modD (Option.bind (consO (op2 addD (op2 mulX (some v18) (some (.int 16807))) (some v13)) (some [])) intTD) (some (.int 2147483629)))) fun v19 =>
 (Out.bind (toO (op2 modD (Option.bind (consO (op2 fdivD (some v19) (some (.int 7))) (some [])) intTD) (some (.int 1000)))) fun v20 => .nx (v20, s7))))) fun (s14, s15) => .nx (s14, s15))) (.nx (v10, s7))) fun (s11, s12) =>
 (Out.bind (toO (Option.bind (some s11) (addL s8))) fun v21 => .nx (s12, v21))))
def m__law_draws (ns : List Int) : List D → Option D
  | [a1] => Out.run (α := Unit) (β := Unit) (Out.bind (toO (Option.bind (some (ns.map PyData.int)) (lcZ (fun v3 => (some true)) (fun v3 => (some v3))))) fun v2 =>
 (Out.bind (toO (Option.bind (some []) szL)) fun v4 =>
 (Out.bind (forR b__law_draws_1 (Option.bind (consO (some a1) (some [])) rng1D) (v2, v4)) fun (s7, s8) =>
 (toR (some (.list s8))))))
  | _ => none
theorem ok__law_draws {f : Addr} {fd : FuncData} (F : Fun K "_law_draws" "_law_draws" s__law_draws f fd) (hm : mg "_law_draws" = some (.ref f)) (n_int : mg "int" = none) (n_len : mg "len" = none) (n_range : mg "range" = none) : DfS P w K mg base 1 "_law_draws" ["script", "count"] m__law_draws := by
  refine dfS_mk F sc__law_draws hm (F.binds fun _ _ _ _ _ _ us hl => match us, hl with | [_, _], _ => rfl) (fun ns ds d h => ?_) (by decide) fun cdv A outer s H E hr => ⟨_, pss_cons (ps_setLc (i := 2) (own := [("cell", 8)]) rfl sc__law_draws.nd rfl rfl (sw_true rfl rfl rfl (by decide +kernel)) (kiList K (pv 0)) (blkOk_by (N := N__law_draws) (sc := defScope s__law_draws) (own := [("cell", 8)]) (by decide +kernel)) (fun _ _ _ _ _ => pg_name (i := 8) sc__law_draws.nd rfl (Or.inl rfl)) (fun _ _ _ _ _ => pts_nil) (fun _ _ _ _ _ => pv 8))
 (pss_cons (ps_set (i := 3) sc__law_draws.nd rfl (Or.inl rfl) (pe_lst (pa_nil)))
 (pss_cons (ps_for PassesOwn.never rfl (pi_range1 (by rfl) n_range (pa_cons (pv 1) (pa_nil))) (pg_name (i := 4) sc__law_draws.nd rfl (Or.inl rfl)) (pss_cons (ps_set (i := 5) sc__law_draws.nd rfl (Or.inl rfl) (pe_int))
 (pss_cons (ps_if (pt_cmpR op_gt (pe_callB (kLen K) (by rfl) n_len (by decide +kernel) (pa_cons (pv 2) (pa_nil))) (pe_int) (nomark _)) (pss_cons (ps_set (i := 6) sc__law_draws.nd rfl (Or.inl rfl) (pe_op op_mod (pe_callTy cr_intX (by rfl) n_int (by decide +kernel) (pa_cons (pv 4) (pa_nil))) (pe_callB (kLen K) (by rfl) n_len (by decide +kernel) (pa_cons (pv 2) (pa_nil)))))
 (pss_one (ps_if (pt_cmpR op_ge (pe_ix (kIx K) (pv 2) (pv 6) (fun _ _ => rfl)) (pe_op op_pow (pe_int) (pe_int)) (nomark _)) (pss_cons (ps_set (i := 5) sc__law_draws.nd rfl (Or.inl rfl) (pe_op op_mod (pe_callTy cr_intX (by rfl) n_int (by decide +kernel) (pa_cons (pe_ix (kIx K) (pv 2) (pv 6) (fun _ _ => rfl)) (pa_nil))) (pe_int)))
 (pss_one (ps_asg (pe_op op_fdiv (pe_ix (kIx K) (pv 2) (pv 6) (fun _ _ => rfl)) (pe_int)) (pg_sub (pv 2) (pv 6) set_list (by intros; rfl))))) (pss_cons (ps_set (i := 7) sc__law_draws.nd rfl (Or.inl rfl) (pe_op op_mod (pe_callTy cr_intX (by rfl) n_int (by decide +kernel) (pa_cons (pe_op op_addX (pe_op op_addX (pe_op op_mulX' (pe_ix (kIx K) (pv 2) (pv 6) (fun _ _ => rfl)) (pe_int)) (pe_op op_mulX' (pv 4) (pe_int))) (pe_int)) (pa_nil))) (pe_int)))
 (pss_cons (ps_set (i := 7) sc__law_draws.nd rfl (Or.inl rfl) (pe_op op_mod (pe_callTy cr_intX (by rfl) n_int (by decide +kernel) (pa_cons (pe_op op_addX (pe_op op_mulX' (pv 7) (pe_int)) (pv 6)) (pa_nil))) (pe_int)))
 (pss_one (ps_set (i := 5) sc__law_draws.nd rfl (Or.inl rfl) (pe_op op_mod (pe_callTy cr_intX (by rfl) n_int (by decide +kernel) (pa_cons (pe_op op_fdiv (pv 7) (pe_int)) (pa_nil))) (pe_int))))))))) (pss_nil))
 (pss_one (ps_expr (pe_bm PySem.F.plainAttrs_list PySem.F.slot_list_append PySem.F.type_list_append mt_append (pv 3) (pa_cons (pv 5) pa_nil)))))))
 (pss_one (ps_ret (pv 3))))), fun ns ds d h => ?_⟩
  · match ds, h with
    | [a1], h => rfl
  · match ds, h with
    | [a1], h => exact ⟨Unit, fun _ => [], Unit, fun _ => [], _, ds_seq (ds_setL (i := 2) (dl_lcN (j := 8) (di_scr 0) (fun v3 => dt_yes) (fun v3 => dv_var 8))) (fun v2 =>
 ds_seq (ds_setL (i := 3) (dl_lst (da_nil))) (fun v4 =>
 ds_seq (ds_forN (j := 4) (e := fun (z : List D × List D) => match z with | (s7, s8) => [.sq ns, .sh a1, .ow s7, .ow s8, .un, .un, .un, .un, .un]) (body := fun (s7, s8) v9 => (Out.bind (toO (some (.int 0))) fun v10 =>
 (Out.bind (ifO (Option.bind (op2 gtD (Option.bind (consO (some (.list s7)) (some [])) lenD) (some (.int 0))) asB) (Out.bind (toO (atomO (op2 modD (Option.bind (consO (some v9) (some [])) intTD) (Option.bind (consO (some (.list s7)) (some [])) lenD)))) fun v13 =>
 (Out.bind (ifO (Option.bind (op2 geD (op2 ixD (some (.list s7)) (some v13)) (op2 powD (some (.int 10)) (some (.int 18)))) asB) (Out.bind (toO (atomO (op2 modD (Option.bind (consO (op2 ixD (some (.list s7)) (some v13)) (some [])) intTD) (some (.int 1000))))) fun v16 =>
 (Out.bind (toO (setIO s7 (op2 fdivD (op2 ixD (some (.list s7)) (some v13)) (some (.int 1000))) (some v13))) fun v17 => .nx (v16, v17))) (Out.bind (toO (atomO (op2 modD (Option.bind (consO (op2 addD (op2 addD (op2 mulX (op2 ixD (some (.list s7)) (some v13)) (some (.int 48271))) (op2 mulX (some v9) (some (.int 69621)))) (some (.int 11))) (some [])) intTD) (some (.int 2147483647))))) fun v18 =>
 (Out.bind (toO (op2 modD (Option.bind (consO (op2 addD (op2 mulX (some v18) (some (.int 16807))) (some v13)) (some [])) intTD) (some (.int 2147483629)))) fun v19 =>
 (Out.bind (toO (op2 modD (Option.bind (consO (op2 fdivD (some v19) (some (.int 7))) (some [])) intTD) (some (.int 1000)))) fun v20 => .nx (v20, s7))))) fun (s14, s15) => .nx (s14, s15))) (.nx (v10, s7))) fun (s11, s12) =>
 (Out.bind (toO (Option.bind (some s11) (addL s8))) fun v21 => .nx (s12, v21))))) (a0 := (v2, v4)) (di_rng1 (da_cons (dv_var 1) (da_nil))) (Le.cons (.refl _) (Le.cons (.refl _) (Le.cons (.refl _) (Le.cons (.refl _) (Le.cons (.refl _) (Le.cons (.refl _) (Le.cons (.refl _) (Le.cons (.refl _) (Le.cons (.refl _) (Le.nil)))))))))) (fun (s7, s8) v9 => ds_seq (ds_set (i := 5) (dv_int 0)) (fun v10 =>
 ds_seq (ds_if (en := fun (z : D × List D) => match z with | (s11, s12) => [.sq ns, .sh a1, .ow s12, .ow s8, .sh v9, .sh s11, .un, .un, .un]) (dt_test (dv_op od_gt (dv_cb cd_len (da_cons (dv_varO 2) (da_nil))) (dv_int 0))) (ds_seq (ds_setA (i := 6) (dv_op od_mod (dv_cb cd_int (da_cons (dv_var 4) (da_nil))) (dv_cb cd_len (da_cons (dv_varO 2) (da_nil))))) (fun v13 =>
 ds_end (ec := (fun (z : D × List D) => match z with | (s11, s12) => [.sq ns, .sh a1, .ow s12, .ow s8, .sh v9, .sh s11, .un, .un, .un])) (g := fun (s14, s15) => (s14, s15)) (fun (s14, s15) => Le.cons (.refl _) (Le.cons (.refl _) (Le.cons (.refl _) (Le.cons (.refl _) (Le.cons (.refl _) (Le.cons (.refl _) (Le.cons (.un _) (Le.cons (.refl _) (Le.cons (.refl _) (Le.nil)))))))))) (ds_if (en := fun (z : D × List D) => match z with | (s14, s15) => [.sq ns, .sh a1, .ow s15, .ow s8, .sh v9, .sh s14, .sh v13, .un, .un]) (dt_test (dv_op od_ge (dv_op od_ix (dv_varO 2) (dv_var 6)) (dv_op od_pow (dv_int 10) (dv_int 18)))) (ds_seq (ds_setA (i := 5) (dv_op od_mod (dv_cb cd_int (da_cons (dv_op od_ix (dv_varO 2) (dv_var 6)) (da_nil))) (dv_int 1000))) (fun v16 =>
 ds_end (ec := (fun (z : D × List D) => match z with | (s14, s15) => [.sq ns, .sh a1, .ow s15, .ow s8, .sh v9, .sh s14, .sh v13, .un, .un])) (g := fun v17 => (v16, v17)) (fun v17 => Le.cons (.refl _) (Le.cons (.refl _) (Le.cons (.refl _) (Le.cons (.refl _) (Le.cons (.refl _) (Le.cons (.refl _) (Le.cons (.refl _) (Le.cons (.refl _) (Le.cons (.refl _) (Le.nil)))))))))) (ds_setI (i := 2) rfl (dv_op od_fdiv (dv_op od_ix (dv_varO 2) (dv_var 6)) (dv_int 1000)) (dv_var 6)))) (ds_seq (ds_setA (i := 7) (dv_op od_mod (dv_cb cd_int (da_cons (dv_op od_add (dv_op od_add (dv_op od_mulX (dv_op od_ix (dv_varO 2) (dv_var 6)) (dv_int 48271)) (dv_op od_mulX (dv_var 4) (dv_int 69621))) (dv_int 11)) (da_nil))) (dv_int 2147483647))) (fun v18 =>
 ds_seq (ds_set (i := 7) (dv_op od_mod (dv_cb cd_int (da_cons (dv_op od_add (dv_op od_mulX (dv_var 7) (dv_int 16807)) (dv_var 6)) (da_nil))) (dv_int 2147483629))) (fun v19 =>
 ds_end (ec := (fun (z : D × List D) => match z with | (s14, s15) => [.sq ns, .sh a1, .ow s15, .ow s8, .sh v9, .sh s14, .sh v13, .un, .un])) (g := fun v20 => (v20, s7)) (fun v20 => Le.cons (.refl _) (Le.cons (.refl _) (Le.cons (.refl _) (Le.cons (.refl _) (Le.cons (.refl _) (Le.cons (.refl _) (Le.cons (.refl _) (Le.cons (.un _) (Le.cons (.refl _) (Le.nil)))))))))) (ds_set (i := 5) (dv_op od_mod (dv_cb cd_int (da_cons (dv_op od_fdiv (dv_var 7) (dv_int 7)) (da_nil))) (dv_int 1000))))))))) (ds_nil (en := (fun (z : D × List D) => match z with | (s11, s12) => [.sq ns, .sh a1, .ow s12, .ow s8, .sh v9, .sh s11, .un, .un, .un])) (a := (v10, s7)) (Le.cons (.refl _) (Le.cons (.refl _) (Le.cons (.refl _) (Le.cons (.refl _) (Le.cons (.refl _) (Le.cons (.refl _) (Le.cons (.refl _) (Le.cons (.refl _) (Le.cons (.refl _) (Le.nil)))))))))))) (fun (s11, s12) =>
 ds_end (ec := (fun (z : List D × List D) => match z with | (s7, s8) => [.sq ns, .sh a1, .ow s7, .ow s8, .un, .un, .un, .un, .un])) (g := fun v21 => (s12, v21)) (fun v21 => Le.cons (.refl _) (Le.cons (.refl _) (Le.cons (.refl _) (Le.cons (.refl _) (Le.cons (.un _) (Le.cons (.un _) (Le.cons (.refl _) (Le.cons (.refl _) (Le.cons (.refl _) (Le.nil)))))))))) (ds_app (i := 3) rfl (dv_var 5)))))) (fun (s7, s8) =>
 ds_weak (env' := [.sq ns, .sh a1, .ow s7, .sh (.list s8), .un, .un, .un, .un, .un]) (Le.cons (.refl _) (Le.cons (.refl _) (Le.cons (.refl _) (Le.cons (.frz _) (Le.cons (.refl _) (Le.cons (.refl _) (Le.cons (.refl _) (Le.cons (.refl _) (Le.cons (.refl _) (Le.nil)))))))))) (ds_ret (dv_var 3))))), h⟩
abbrev s__law_lowest : Stmt := topS 6
abbrev N__law_lowest : List Str := ["n", "d", "one", "other", "step"]
theorem sc__law_lowest : FnScope N__law_lowest ["n", "d"] (defScope s__law_lowest) := ⟨rfl, rfl, rfl, by decide +kernel, rfl, by decide +kernel, by decide +kernel⟩
def b__law_lowest_1  : D × D → D → Out (D × D) (D × D) :=
  fun (s9, s10) v11 => (Out.bind (ifO (Option.bind (op2 eqX (some s10) (some (.int 0))) asB) (.bk (s9, s10)) (.nx ())) fun () =>
 (Out.bind (toO (twoO (consO (some s10) (consO (op2 modD (Option.bind (consO (some s9) (some [])) intTD) (some s10)) (some []))))) fun (v12, v13) => .nx (v12, v13)))
def m__law_lowest : List D → Option D
  | [a1, a2] => Out.run (α := Unit) (β := Unit) (Out.bind (toO (twoO (consO (some a1) (consO (some a2) (some []))))) fun (v3, v4) =>
 (Out.bind (ifO (Option.bind (op2 ltD (some v3) (some (.int 0))) asB) (Out.bind (toO (Option.bind (some v3) negD)) fun v6 => .nx v6) (.nx v3)) fun s5 =>
 (Out.bind (forR b__law_lowest_1 (Option.bind (consO (some (.int 4000)) (some [])) rng1D) (s5, v4)) fun (s9, s10) =>
 (toR (Option.bind (consO (op2 fdivD (some a1) (some s9)) (consO (op2 fdivD (some a2) (some s9)) (some []))) tupD)))))
  | _ => none
theorem ok__law_lowest {f : Addr} {fd : FuncData} (F : Fun K "_law_lowest" "_law_lowest" s__law_lowest f fd) (hm : mg "_law_lowest" = some (.ref f)) (n_int : mg "int" = none) (n_range : mg "range" = none) : Df P w K mg base 1 "_law_lowest" ["n", "d"] m__law_lowest := by
  refine df_mk F sc__law_lowest hm (F.binds fun _ _ _ _ _ _ us hl => match us, hl with | [_, _], _ => rfl) (fun ds d h => ?_) (by decide) fun cdv A outer s H E hr => ⟨_, pss_cons (ps_par (i := 2) (j := 3) rfl sc__law_lowest.nd rfl rfl (by decide) rfl rfl (pa_cons (pv 0) (pa_cons (pv 1) (pa_nil))) (by rfl))
 (pss_cons (ps_if (pt_cmpR op_lt (pv 2) (pe_int) (nomark _)) (pss_one (ps_set (i := 2) sc__law_lowest.nd rfl (Or.inl rfl) (pe_un un_neg (pv 2)))) (pss_nil))
 (pss_cons (ps_for PassesOwn.never rfl (pi_range1 (by rfl) n_range (pa_cons (pe_int) (pa_nil))) (pg_name (i := 4) sc__law_lowest.nd rfl (Or.inl rfl)) (pss_cons (ps_if (pt_cmpR (kEqX K rfl hr.units) (pv 3) (pe_int) (nomark _)) (pss_one ps_break) (pss_nil))
 (pss_one (ps_par (i := 2) (j := 3) rfl sc__law_lowest.nd rfl rfl (by decide) rfl rfl (pa_cons (pv 3) (pa_cons (pe_op op_mod (pe_callTy cr_intX (by rfl) n_int (by decide +kernel) (pa_cons (pv 2) (pa_nil))) (pv 3)) (pa_nil))) (by rfl)))))
 (pss_one (ps_ret (pe_tup (pa_cons (pe_op op_fdiv (pv 0) (pv 2)) (pa_cons (pe_op op_fdiv (pv 1) (pv 2)) (pa_nil)))))))), fun ds d h => ?_⟩
  · match ds, h with
    | [a1, a2], h => rfl
  · match ds, h with
    | [a1, a2], h => exact ⟨Unit, fun _ => [], Unit, fun _ => [], _, ds_seq (ds_par (i := 2) (j := 3) (da_cons (dv_var 0) (da_cons (dv_var 1) (da_nil)))) (fun (v3, v4) =>
 ds_seq (ds_if (en := fun (s5 : D) => [.sh a1, .sh a2, .sh s5, .sh v4, .un]) (dt_test (dv_op od_lt (dv_var 2) (dv_int 0))) (ds_end (ec := (fun (s5 : D) => [.sh a1, .sh a2, .sh s5, .sh v4, .un])) (g := fun v6 => v6) (fun v6 => Le.cons (.refl _) (Le.cons (.refl _) (Le.cons (.refl _) (Le.cons (.refl _) (Le.cons (.refl _) (Le.nil)))))) (ds_set (i := 2) (dv_un ud_neg (dv_var 2)))) (ds_nil (en := (fun (s5 : D) => [.sh a1, .sh a2, .sh s5, .sh v4, .un])) (a := v3) (Le.cons (.refl _) (Le.cons (.refl _) (Le.cons (.refl _) (Le.cons (.refl _) (Le.cons (.refl _) (Le.nil)))))))) (fun s5 =>
 ds_seq (ds_forN (j := 4) (e := fun (z : D × D) => match z with | (s9, s10) => [.sh a1, .sh a2, .sh s9, .sh s10, .un]) (body := fun (s9, s10) v11 => (Out.bind (ifO (Option.bind (op2 eqX (some s10) (some (.int 0))) asB) (.bk (s9, s10)) (.nx ())) fun () =>
 (Out.bind (toO (twoO (consO (some s10) (consO (op2 modD (Option.bind (consO (some s9) (some [])) intTD) (some s10)) (some []))))) fun (v12, v13) => .nx (v12, v13)))) (a0 := (s5, v4)) (di_rng1 (da_cons (dv_int 4000) (da_nil))) (Le.cons (.refl _) (Le.cons (.refl _) (Le.cons (.refl _) (Le.cons (.refl _) (Le.cons (.refl _) (Le.nil)))))) (fun (s9, s10) v11 => ds_seq (ds_if (en := fun (_ : Unit) => [.sh a1, .sh a2, .sh s9, .sh s10, .sh v11]) (dt_test (dv_op od_eqX (dv_var 3) (dv_int 0))) (ds_brk (b := (s9, s10)) (Le.cons (.refl _) (Le.cons (.refl _) (Le.cons (.refl _) (Le.cons (.refl _) (Le.cons (.un _) (Le.nil))))))) (ds_nil (en := (fun (_ : Unit) => [.sh a1, .sh a2, .sh s9, .sh s10, .sh v11])) (a := ()) (Le.cons (.refl _) (Le.cons (.refl _) (Le.cons (.refl _) (Le.cons (.refl _) (Le.cons (.refl _) (Le.nil)))))))) (fun () =>
 ds_end (ec := (fun (z : D × D) => match z with | (s9, s10) => [.sh a1, .sh a2, .sh s9, .sh s10, .un])) (g := fun (v12, v13) => (v12, v13)) (fun (v12, v13) => Le.cons (.refl _) (Le.cons (.refl _) (Le.cons (.refl _) (Le.cons (.refl _) (Le.cons (.un _) (Le.nil)))))) (ds_par (i := 2) (j := 3) (da_cons (dv_var 3) (da_cons (dv_op od_mod (dv_cb cd_int (da_cons (dv_var 2) (da_nil))) (dv_var 3)) (da_nil))))))) (fun (s9, s10) =>
 ds_ret (dv_tup (da_cons (dv_op od_fdiv (dv_var 0) (dv_var 2)) (da_cons (dv_op od_fdiv (dv_var 1) (dv_var 2)) (da_nil))))))), h⟩
abbrev s__law_wide : Stmt := topS 7
abbrev N__law_wide : List Str := ["draws", "most", "many", "game", "k", "part", "mark", "kind", "branches", "found", "weights", "chances", "n", "weight"]
theorem sc__law_wide : FnScope N__law_wide ["draws", "most"] (defScope s__law_wide) := ⟨rfl, rfl, rfl, by decide +kernel, rfl, by decide +kernel, by decide +kernel⟩
def b__law_wide_1 (a1 : D) (v3 : D) : List D → D → Out (List D) (List D) :=
  fun s6 v7 => (Out.bind (toO (slO slD (some a1) (Option.bind (op2 addD (some (.int 1)) (op2 mulX (some (.int 14)) (some v7))) partD) (Option.bind (op2 addD (some (.int 15)) (op2 mulX (some (.int 14)) (some v7))) partD))) fun v8 =>
 (Out.bind (toO (threeO (consO (op2 modD (Option.bind (consO (op2 ixD (some v8) (some (.int 0))) (some [])) intTD) (some (.int 10))) (consO (op2 modD (Option.bind (consO (op2 ixD (some v8) (some (.int 1))) (some [])) intTD) (some (.int 4))) (consO (op2 addD (some (.int 1)) (op2 modD (Option.bind (consO (op2 ixD (some v8) (some (.int 2))) (some [])) intTD) (some (.int 6)))) (some [])))))) fun (v9, v10, v11) =>
 (Out.bind (toO (newO (Option.bind (Option.bind (consO (some v11) (some [])) rng1D) (lcZ (fun v13 => (some true)) (fun v13 => (op2 modD (Option.bind (consO (op2 ixD (some v8) (op2 addD (some (.int 3)) (some v13))) (some [])) intTD) (some v3))))))) fun v12 =>
 (Out.bind (ifO (Option.bind (op2 ltD (some v10) (some (.int 2))) asB) (Out.bind (toO (newO (Option.bind (Option.bind (consO (some v11) (some [])) rng1D) (lcZ (fun v16 => (some true)) (fun v16 => (op2 addD (some (.int 1)) (op2 modD (Option.bind (consO (op2 ixD (some v8) (op2 addD (some (.int 8)) (some v16))) (some [])) intTD) (some (.int 90))))))))) fun v15 =>
 (Out.bind (toO (newO (Option.bind (Option.bind (some v15) iterD) (lcZ (fun v18 => (some true)) (fun v18 => (Option.bind (consO (some v18) (consO (Option.bind (consO (some v15) (some [])) sumD) (some []))) m__law_lowest)))))) fun v17 =>
 (Out.bind (toO (Option.bind (Option.bind (consO (some v9) (consO (some (.str "draw")) (consO (newO (Option.bind (Option.bind (consO (some v11) (some [])) rng1D) (lcZ (fun v19 => (some true)) (fun v19 => (Option.bind (consO (op2 ixD (some v17) (some v19)) (consO (op2 ixD (some v12) (some v19)) (some []))) tupD))))) (some [])))) tupD) (addL s6))) fun v20 => .nx v20))) (Out.bind (toO (Option.bind (Option.bind (consO (some v9) (consO (op2 ixD (newO (Option.bind (consO (some (.str "ours")) (consO (some (.str "theirs")) (some []))) szL)) (op2 subD (some v10) (some (.int 2)))) (consO (some v12) (some [])))) tupD) (addL s6))) fun v21 => .nx v21)) fun s14 => .nx s14))))
def m__law_wide : List D → Option D
  | [a1, a2] => Out.run (α := Unit) (β := Unit) (Out.bind (toO (op2 addD (some (.int 1)) (op2 modD (Option.bind (consO (op2 ixD (some a1) (some (.int 0))) (some [])) intTD) (some a2)))) fun v3 =>
 (Out.bind (toO (Option.bind (some []) szL)) fun v4 =>
 (Out.bind (forR (b__law_wide_1 a1 v3) (Option.bind (consO (some v3) (some [])) rng1D) v4) fun s6 =>
 (toR (some (.list s6))))))
  | _ => none
theorem ok__law_wide {f : Addr} {fd : FuncData} (F : Fun K "_law_wide" "_law_wide" s__law_wide f fd) (hm : mg "_law_wide" = some (.ref f)) (n_int : mg "int" = none) (n_range : mg "range" = none) (n_sum : mg "sum" = none) (D__law_lowest : Df P w K mg base 1 "_law_lowest" ["n", "d"] m__law_lowest) : Df P w K mg base 2 "_law_wide" ["draws", "most"] m__law_wide := by
  refine df_mk F sc__law_wide hm (F.binds fun _ _ _ _ _ _ us hl => match us, hl with | [_, _], _ => rfl) (fun ds d h => ?_) (by decide) fun cdv A outer s H E hr => ⟨_, pss_cons (ps_set (i := 2) sc__law_wide.nd rfl (Or.inr rfl) (pe_op op_addX (pe_int) (pe_op op_mod (pe_callTy cr_intX (by rfl) n_int (by decide +kernel) (pa_cons (pe_ix (kIx K) (pv 0) (pe_int) (fun _ _ => rfl)) (pa_nil))) (pv 1))))
 (pss_cons (ps_set (i := 3) sc__law_wide.nd rfl (Or.inl rfl) (pe_lst (pa_nil)))
 (pss_cons (ps_for PassesOwn.never rfl (pi_range1 (by rfl) n_range (pa_cons (pv 2) (pa_nil))) (pg_name (i := 4) sc__law_wide.nd rfl (Or.inl rfl)) (pss_cons (ps_set (i := 5) sc__law_wide.nd rfl (Or.inr rfl) (pe_slice (kSl K) (pv 0) (po_some (pe_op op_addX (pe_int) (pe_op op_mulX' (pe_int) (pv 4)))) (po_some (pe_op op_addX (pe_int) (pe_op op_mulX' (pe_int) (pv 4))))))
 (pss_cons (ps_par3 (i := 6) (j := 7) (l := 8) rfl sc__law_wide.nd rfl rfl rfl (by decide) (by decide) (by decide) rfl rfl rfl (pa_cons (pe_op op_mod (pe_callTy cr_intX (by rfl) n_int (by decide +kernel) (pa_cons (pe_ix (kIx K) (pv 5) (pe_int) (fun _ _ => rfl)) (pa_nil))) (pe_int)) (pa_cons (pe_op op_mod (pe_callTy cr_intX (by rfl) n_int (by decide +kernel) (pa_cons (pe_ix (kIx K) (pv 5) (pe_int) (fun _ _ => rfl)) (pa_nil))) (pe_int)) (pa_cons (pe_op op_addX (pe_int) (pe_op op_mod (pe_callTy cr_intX (by rfl) n_int (by decide +kernel) (pa_cons (pe_ix (kIx K) (pv 5) (pe_int) (fun _ _ => rfl)) (pa_nil))) (pe_int))) (pa_nil)))) (by rfl))
 (pss_cons (ps_set (i := 9) sc__law_wide.nd rfl (Or.inr rfl) (pe_lc (own := [("n", 12)]) (g := gName 12) rfl sc__law_wide.nd (pi_range1 (by rfl) n_range (pa_cons (pv 8) (pa_nil))) (blkOk_by (N := N__law_wide) (sc := defScope s__law_wide) (own := [("n", 12)]) (by decide +kernel)) (fun _ _ _ _ _ => pg_name (i := 12) sc__law_wide.nd rfl (Or.inl rfl)) (fun _ _ _ _ _ => pts_nil) (fun _ _ _ _ _ => pe_op op_mod (pe_callTy cr_intX (by rfl) n_int (by decide +kernel) (pa_cons (pe_ix (kIx K) (pv 5) (pe_op op_addX (pe_int) (pv 12)) (fun _ _ => rfl)) (pa_nil))) (pv 2))))
 (pss_one (ps_if (pt_cmpR op_lt (pv 7) (pe_int) (nomark _)) (pss_cons (ps_set (i := 10) sc__law_wide.nd rfl (Or.inr rfl) (pe_lc (own := [("n", 12)]) (g := gName 12) rfl sc__law_wide.nd (pi_range1 (by rfl) n_range (pa_cons (pv 8) (pa_nil))) (blkOk_by (N := N__law_wide) (sc := defScope s__law_wide) (own := [("n", 12)]) (by decide +kernel)) (fun _ _ _ _ _ => pg_name (i := 12) sc__law_wide.nd rfl (Or.inl rfl)) (fun _ _ _ _ _ => pts_nil) (fun _ _ _ _ _ => pe_op op_addX (pe_int) (pe_op op_mod (pe_callTy cr_intX (by rfl) n_int (by decide +kernel) (pa_cons (pe_ix (kIx K) (pv 5) (pe_op op_addX (pe_int) (pv 12)) (fun _ _ => rfl)) (pa_nil))) (pe_int)))))
 (pss_cons (ps_set (i := 11) sc__law_wide.nd rfl (Or.inr rfl) (pe_lc (own := [("weight", 13)]) (g := gName 13) rfl sc__law_wide.nd (kiAny K (pv 10)) (blkOk_by (N := N__law_wide) (sc := defScope s__law_wide) (own := [("weight", 13)]) (by decide +kernel)) (fun _ _ _ _ _ => pg_name (i := 13) sc__law_wide.nd rfl (Or.inl rfl)) (fun _ _ _ _ _ => pts_nil) (fun _ _ _ _ _ => kDf K D__law_lowest (hr.mono (by decide)) (by rfl) (pa_cons (pv 13) (pa_cons (pe_callB (kSum K) (by rfl) n_sum (by decide +kernel) (pa_cons (pv 10) (pa_nil))) (pa_nil))))))
 (pss_one (ps_expr (pe_bm PySem.F.plainAttrs_list PySem.F.slot_list_append PySem.F.type_list_append mt_append (pv 3) (pa_cons (pe_tup (pa_cons (pv 6) (pa_cons (pe_str) (pa_cons (pe_lc (own := [("n", 12)]) (g := gName 12) rfl sc__law_wide.nd (pi_range1 (by rfl) n_range (pa_cons (pv 8) (pa_nil))) (blkOk_by (N := N__law_wide) (sc := defScope s__law_wide) (own := [("n", 12)]) (by decide +kernel)) (fun _ _ _ _ _ => pg_name (i := 12) sc__law_wide.nd rfl (Or.inl rfl)) (fun _ _ _ _ _ => pts_nil) (fun _ _ _ _ _ => pe_tup (pa_cons (pe_ix (kIx K) (pv 11) (pv 12) (fun _ _ => rfl)) (pa_cons (pe_ix (kIx K) (pv 9) (pv 12) (fun _ _ => rfl)) (pa_nil))))) (pa_nil))))) pa_nil)))))) (pss_one (ps_expr (pe_bm PySem.F.plainAttrs_list PySem.F.slot_list_append PySem.F.type_list_append mt_append (pv 3) (pa_cons (pe_tup (pa_cons (pv 6) (pa_cons (pe_ix (kIx K) (pe_lst (pa_cons (pe_str) (pa_cons (pe_str) (pa_nil)))) (pe_op op_sub (pv 7) (pe_int)) (fun _ _ => rfl)) (pa_cons (pv 9) (pa_nil))))) pa_nil))))))))))
 (pss_one (ps_ret (pv 3))))), fun ds d h => ?_⟩
  · match ds, h with
    | [a1, a2], h => rfl
  · match ds, h with
    | [a1, a2], h => exact ⟨Unit, fun _ => [], Unit, fun _ => [], _, ds_seq (ds_set (i := 2) (dv_op od_add (dv_int 1) (dv_op od_mod (dv_cb cd_int (da_cons (dv_op od_ix (dv_var 0) (dv_int 0)) (da_nil))) (dv_var 1)))) (fun v3 =>
 ds_seq (ds_setL (i := 3) (dl_lst (da_nil))) (fun v4 =>
 ds_seq (ds_forN (j := 4) (e := fun (s6 : List D) => [.sh a1, .sh a2, .sh v3, .ow s6, .un, .un, .un, .un, .un, .un, .un, .un, .un, .un]) (body := fun s6 v7 => (Out.bind (toO (slO slD (some a1) (Option.bind (op2 addD (some (.int 1)) (op2 mulX (some (.int 14)) (some v7))) partD) (Option.bind (op2 addD (some (.int 15)) (op2 mulX (some (.int 14)) (some v7))) partD))) fun v8 =>
 (Out.bind (toO (threeO (consO (op2 modD (Option.bind (consO (op2 ixD (some v8) (some (.int 0))) (some [])) intTD) (some (.int 10))) (consO (op2 modD (Option.bind (consO (op2 ixD (some v8) (some (.int 1))) (some [])) intTD) (some (.int 4))) (consO (op2 addD (some (.int 1)) (op2 modD (Option.bind (consO (op2 ixD (some v8) (some (.int 2))) (some [])) intTD) (some (.int 6)))) (some [])))))) fun (v9, v10, v11) =>
 (Out.bind (toO (newO (Option.bind (Option.bind (consO (some v11) (some [])) rng1D) (lcZ (fun v13 => (some true)) (fun v13 => (op2 modD (Option.bind (consO (op2 ixD (some v8) (op2 addD (some (.int 3)) (some v13))) (some [])) intTD) (some v3))))))) fun v12 =>
 (Out.bind (ifO (Option.bind (op2 ltD (some v10) (some (.int 2))) asB) (Out.bind (toO (newO (Option.bind (Option.bind (consO (some v11) (some [])) rng1D) (lcZ (fun v16 => (some true)) (fun v16 => (op2 addD (some (.int 1)) (op2 modD (Option.bind (consO (op2 ixD (some v8) (op2 addD (some (.int 8)) (some v16))) (some [])) intTD) (some (.int 90))))))))) fun v15 =>
 (Out.bind (toO (newO (Option.bind (Option.bind (some v15) iterD) (lcZ (fun v18 => (some true)) (fun v18 => (Option.bind (consO (some v18) (consO (Option.bind (consO (some v15) (some [])) sumD) (some []))) m__law_lowest)))))) fun v17 =>
 (Out.bind (toO (Option.bind (Option.bind (consO (some v9) (consO (some (.str "draw")) (consO (newO (Option.bind (Option.bind (consO (some v11) (some [])) rng1D) (lcZ (fun v19 => (some true)) (fun v19 => (Option.bind (consO (op2 ixD (some v17) (some v19)) (consO (op2 ixD (some v12) (some v19)) (some []))) tupD))))) (some [])))) tupD) (addL s6))) fun v20 => .nx v20))) (Out.bind (toO (Option.bind (Option.bind (consO (some v9) (consO (op2 ixD (newO (Option.bind (consO (some (.str "ours")) (consO (some (.str "theirs")) (some []))) szL)) (op2 subD (some v10) (some (.int 2)))) (consO (some v12) (some [])))) tupD) (addL s6))) fun v21 => .nx v21)) fun s14 => .nx s14))))) (a0 := v4) (di_rng1 (da_cons (dv_var 2) (da_nil))) (Le.cons (.refl _) (Le.cons (.refl _) (Le.cons (.refl _) (Le.cons (.refl _) (Le.cons (.refl _) (Le.cons (.refl _) (Le.cons (.refl _) (Le.cons (.refl _) (Le.cons (.refl _) (Le.cons (.refl _) (Le.cons (.refl _) (Le.cons (.refl _) (Le.cons (.refl _) (Le.cons (.refl _) (Le.nil))))))))))))))) (fun s6 v7 => ds_seq (ds_set (i := 5) (dv_sl sd_X (dv_var 0) (do_part (dv_op od_add (dv_int 1) (dv_op od_mulX (dv_int 14) (dv_var 4)))) (do_part (dv_op od_add (dv_int 15) (dv_op od_mulX (dv_int 14) (dv_var 4)))))) (fun v8 =>
 ds_seq (ds_par3 (i := 6) (j := 7) (k := 8) (da_cons (dv_op od_mod (dv_cb cd_int (da_cons (dv_op od_ix (dv_var 5) (dv_int 0)) (da_nil))) (dv_int 10)) (da_cons (dv_op od_mod (dv_cb cd_int (da_cons (dv_op od_ix (dv_var 5) (dv_int 1)) (da_nil))) (dv_int 4)) (da_cons (dv_op od_add (dv_int 1) (dv_op od_mod (dv_cb cd_int (da_cons (dv_op od_ix (dv_var 5) (dv_int 2)) (da_nil))) (dv_int 6))) (da_nil))))) (fun (v9, v10, v11) =>
 ds_seq (ds_set (i := 9) (dv_new (dl_lcN (j := 12) (di_rng1 (da_cons (dv_var 8) (da_nil))) (fun v13 => dt_yes) (fun v13 => dv_op od_mod (dv_cb cd_int (da_cons (dv_op od_ix (dv_var 5) (dv_op od_add (dv_int 3) (dv_var 12))) (da_nil))) (dv_var 2))))) (fun v12 =>
 ds_end (ec := (fun (s6 : List D) => [.sh a1, .sh a2, .sh v3, .ow s6, .un, .un, .un, .un, .un, .un, .un, .un, .un, .un])) (g := fun s14 => s14) (fun s14 => Le.cons (.refl _) (Le.cons (.refl _) (Le.cons (.refl _) (Le.cons (.refl _) (Le.cons (.un _) (Le.cons (.un _) (Le.cons (.un _) (Le.cons (.un _) (Le.cons (.un _) (Le.cons (.un _) (Le.cons (.refl _) (Le.cons (.refl _) (Le.cons (.refl _) (Le.cons (.refl _) (Le.nil))))))))))))))) (ds_if (en := fun (s14 : List D) => [.sh a1, .sh a2, .sh v3, .ow s14, .sh v7, .sh v8, .sh v9, .sh v10, .sh v11, .sh v12, .un, .un, .un, .un]) (dt_test (dv_op od_lt (dv_var 7) (dv_int 2))) (ds_seq (ds_set (i := 10) (dv_new (dl_lcN (j := 12) (di_rng1 (da_cons (dv_var 8) (da_nil))) (fun v16 => dt_yes) (fun v16 => dv_op od_add (dv_int 1) (dv_op od_mod (dv_cb cd_int (da_cons (dv_op od_ix (dv_var 5) (dv_op od_add (dv_int 8) (dv_var 12))) (da_nil))) (dv_int 90)))))) (fun v15 =>
 ds_seq (ds_set (i := 11) (dv_new (dl_lcN (j := 13) (di_any (dv_var 10)) (fun v18 => dt_yes) (fun v18 => dv_call (da_cons (dv_var 13) (da_cons (dv_cb cd_sum (da_cons (dv_var 10) (da_nil))) (da_nil))))))) (fun v17 =>
 ds_end (ec := (fun (s14 : List D) => [.sh a1, .sh a2, .sh v3, .ow s14, .sh v7, .sh v8, .sh v9, .sh v10, .sh v11, .sh v12, .un, .un, .un, .un])) (g := fun v20 => v20) (fun v20 => Le.cons (.refl _) (Le.cons (.refl _) (Le.cons (.refl _) (Le.cons (.refl _) (Le.cons (.refl _) (Le.cons (.refl _) (Le.cons (.refl _) (Le.cons (.refl _) (Le.cons (.refl _) (Le.cons (.refl _) (Le.cons (.un _) (Le.cons (.un _) (Le.cons (.refl _) (Le.cons (.refl _) (Le.nil))))))))))))))) (ds_app (i := 3) rfl (dv_tup (da_cons (dv_var 6) (da_cons (dv_str _) (da_cons (dv_new (dl_lcN (j := 12) (di_rng1 (da_cons (dv_var 8) (da_nil))) (fun v19 => dt_yes) (fun v19 => dv_tup (da_cons (dv_op od_ix (dv_var 11) (dv_var 12)) (da_cons (dv_op od_ix (dv_var 9) (dv_var 12)) (da_nil)))))) (da_nil))))))))) (ds_end (ec := (fun (s14 : List D) => [.sh a1, .sh a2, .sh v3, .ow s14, .sh v7, .sh v8, .sh v9, .sh v10, .sh v11, .sh v12, .un, .un, .un, .un])) (g := fun v21 => v21) (fun v21 => Le.cons (.refl _) (Le.cons (.refl _) (Le.cons (.refl _) (Le.cons (.refl _) (Le.cons (.refl _) (Le.cons (.refl _) (Le.cons (.refl _) (Le.cons (.refl _) (Le.cons (.refl _) (Le.cons (.refl _) (Le.cons (.refl _) (Le.cons (.refl _) (Le.cons (.refl _) (Le.cons (.refl _) (Le.nil))))))))))))))) (ds_app (i := 3) rfl (dv_tup (da_cons (dv_var 6) (da_cons (dv_op od_ix (dv_new (dl_lst (da_cons (dv_str _) (da_cons (dv_str _) (da_nil))))) (dv_op od_sub (dv_var 7) (dv_int 2))) (da_cons (dv_var 9) (da_nil))))))))))))) (fun s6 =>
 ds_weak (env' := [.sh a1, .sh a2, .sh v3, .sh (.list s6), .un, .un, .un, .un, .un, .un, .un, .un, .un, .un]) (Le.cons (.refl _) (Le.cons (.refl _) (Le.cons (.refl _) (Le.cons (.frz _) (Le.cons (.refl _) (Le.cons (.refl _) (Le.cons (.refl _) (Le.cons (.refl _) (Le.cons (.refl _) (Le.cons (.refl _) (Le.cons (.refl _) (Le.cons (.refl _) (Le.cons (.refl _) (Le.cons (.refl _) (Le.nil))))))))))))))) (ds_ret (dv_var 3))))), h⟩
abbrev s__law_names : Stmt := topS 8
abbrev N__law_names : List Str := ["first", "second", "many", "letters", "words", "word", "k"]
theorem sc__law_names : FnScope N__law_names ["first", "second", "many"] (defScope s__law_names) := ⟨rfl, rfl, rfl, by decide +kernel, rfl, by decide +kernel, by decide +kernel⟩
def m__law_names : List D → Option D
  | [a1, a2, a3] => Out.run (α := Unit) (β := Unit) (Out.bind (toO (some (.str "abcdefghijklmnopqrstuvwxyz"))) fun v4 =>
 (Out.bind (ifO (Option.bind (op2 eqX (op2 modD (Option.bind (consO (some a1) (some [])) intTD) (some (.int 3))) (some (.int 0))) asB) (toR (newO (Option.bind (Option.bind (consO (some a3) (some [])) rng1D) (lcZ (fun v5 => (some true)) (fun v5 => (op2 ixD (some v4) (op2 modD (Option.bind (consO (op2 addD (some a2) (op2 mulX (some (.int 5)) (some v5))) (some [])) intTD) (some (.int 26))))))))) (.nx ())) fun () =>
 (Out.bind (toO (newO (Option.bind (consO (some (.str "a")) (consO (some (.str "ours")) (consO (some (.str "gate")) (consO (some (.str "x9y")) (consO (some (.str "chances")) (consO (some (.str "theirs0")) (some []))))))) szL))) fun v6 =>
 (Out.bind (toO (op2 ixD (some v6) (op2 modD (Option.bind (consO (op2 fdivD (some a1) (some (.int 3))) (some [])) intTD) (some (.int 6))))) fun v7 =>
 (toR (newO (Option.bind (Option.bind (consO (some a3) (some [])) rng1D) (lcZ (fun v8 => (some true)) (fun v8 => (op2 addD (some v7) (Option.bind (consO (op2 addD (op2 addD (some (.int 10)) (op2 modD (Option.bind (consO (some a2) (some [])) intTD) (some (.int 50)))) (op2 mulX (some (.int 2)) (some v8))) (some [])) strTD)))))))))))
  | _ => none
theorem ok__law_names {f : Addr} {fd : FuncData} (F : Fun K "_law_names" "_law_names" s__law_names f fd) (hm : mg "_law_names" = some (.ref f)) (n_int : mg "int" = none) (n_range : mg "range" = none) (n_str : mg "str" = none) : Df P w K mg base 1 "_law_names" ["first", "second", "many"] m__law_names := by
  refine df_mk F sc__law_names hm (F.binds fun _ _ _ _ _ _ us hl => match us, hl with | [_, _, _], _ => rfl) (fun ds d h => ?_) (by decide) fun cdv A outer s H E hr => ⟨_, pss_cons (ps_set (i := 3) sc__law_names.nd rfl (Or.inr rfl) (pe_str))
 (pss_cons (ps_if (pt_cmpR (kEqX K rfl hr.units) (pe_op op_mod (pe_callTy cr_intX (by rfl) n_int (by decide +kernel) (pa_cons (pv 0) (pa_nil))) (pe_int)) (pe_int) (nomark _)) (pss_one (ps_ret (pe_lc (own := [("k", 6)]) (g := gName 6) rfl sc__law_names.nd (pi_range1 (by rfl) n_range (pa_cons (pv 2) (pa_nil))) (blkOk_by (N := N__law_names) (sc := defScope s__law_names) (own := [("k", 6)]) (by decide +kernel)) (fun _ _ _ _ _ => pg_name (i := 6) sc__law_names.nd rfl (Or.inl rfl)) (fun _ _ _ _ _ => pts_nil) (fun _ _ _ _ _ => pe_ix (kIx K) (pv 3) (pe_op op_mod (pe_callTy cr_intX (by rfl) n_int (by decide +kernel) (pa_cons (pe_op op_addX (pv 1) (pe_op op_mulX' (pe_int) (pv 6))) (pa_nil))) (pe_int)) (fun _ _ => rfl))))) (pss_nil))
 (pss_cons (ps_set (i := 4) sc__law_names.nd rfl (Or.inl rfl) (pe_lst (pa_cons (pe_str) (pa_cons (pe_str) (pa_cons (pe_str) (pa_cons (pe_str) (pa_cons (pe_str) (pa_cons (pe_str) (pa_nil)))))))))
 (pss_cons (ps_set (i := 5) sc__law_names.nd rfl (Or.inr rfl) (pe_ix (kIx K) (pv 4) (pe_op op_mod (pe_callTy cr_intX (by rfl) n_int (by decide +kernel) (pa_cons (pe_op op_fdiv (pv 0) (pe_int)) (pa_nil))) (pe_int)) (fun _ _ => rfl)))
 (pss_one (ps_ret (pe_lc (own := [("k", 6)]) (g := gName 6) rfl sc__law_names.nd (pi_range1 (by rfl) n_range (pa_cons (pv 2) (pa_nil))) (blkOk_by (N := N__law_names) (sc := defScope s__law_names) (own := [("k", 6)]) (by decide +kernel)) (fun _ _ _ _ _ => pg_name (i := 6) sc__law_names.nd rfl (Or.inl rfl)) (fun _ _ _ _ _ => pts_nil) (fun _ _ _ _ _ => pe_op op_addX (pv 5) (pe_callTy call_str_int (by rfl) n_str (by decide +kernel) (pa_cons (pe_op op_addX (pe_op op_addX (pe_int) (pe_op op_mod (pe_callTy cr_intX (by rfl) n_int (by decide +kernel) (pa_cons (pv 1) (pa_nil))) (pe_int))) (pe_op op_mulX' (pe_int) (pv 6))) (pa_nil)))))))))), fun ds d h => ?_⟩
  · match ds, h with
    | [a1, a2, a3], h => rfl
  · match ds, h with
    | [a1, a2, a3], h => exact ⟨Unit, fun _ => [], Unit, fun _ => [], _, ds_seq (ds_set (i := 3) (dv_str _)) (fun v4 =>
 ds_seq (ds_if (en := fun (_ : Unit) => [.sh a1, .sh a2, .sh a3, .sh v4, .un, .un, .un]) (dt_test (dv_op od_eqX (dv_op od_mod (dv_cb cd_int (da_cons (dv_var 0) (da_nil))) (dv_int 3)) (dv_int 0))) (ds_ret (dv_new (dl_lcN (j := 6) (di_rng1 (da_cons (dv_var 2) (da_nil))) (fun v5 => dt_yes) (fun v5 => dv_op od_ix (dv_var 3) (dv_op od_mod (dv_cb cd_int (da_cons (dv_op od_add (dv_var 1) (dv_op od_mulX (dv_int 5) (dv_var 6))) (da_nil))) (dv_int 26)))))) (ds_nil (en := (fun (_ : Unit) => [.sh a1, .sh a2, .sh a3, .sh v4, .un, .un, .un])) (a := ()) (Le.cons (.refl _) (Le.cons (.refl _) (Le.cons (.refl _) (Le.cons (.refl _) (Le.cons (.refl _) (Le.cons (.refl _) (Le.cons (.refl _) (Le.nil)))))))))) (fun () =>
 ds_seq (ds_set (i := 4) (dv_new (dl_lst (da_cons (dv_str _) (da_cons (dv_str _) (da_cons (dv_str _) (da_cons (dv_str _) (da_cons (dv_str _) (da_cons (dv_str _) (da_nil)))))))))) (fun v6 =>
 ds_seq (ds_set (i := 5) (dv_op od_ix (dv_var 4) (dv_op od_mod (dv_cb cd_int (da_cons (dv_op od_fdiv (dv_var 0) (dv_int 3)) (da_nil))) (dv_int 6)))) (fun v7 =>
 ds_ret (dv_new (dl_lcN (j := 6) (di_rng1 (da_cons (dv_var 2) (da_nil))) (fun v8 => dt_yes) (fun v8 => dv_op od_add (dv_var 5) (dv_cb cd_str (da_cons (dv_op od_add (dv_op od_add (dv_int 10) (dv_op od_mod (dv_cb cd_int (da_cons (dv_var 1) (da_nil))) (dv_int 50))) (dv_op od_mulX (dv_int 2) (dv_var 6))) (da_nil)))))))))), h⟩
abbrev s__law_chance : Stmt := topS 9
abbrev N__law_chance : List Str := ["chance"]
theorem sc__law_chance : FnScope N__law_chance ["chance"] (defScope s__law_chance) := ⟨rfl, rfl, rfl, by decide +kernel, rfl, by decide +kernel, by decide +kernel⟩
def m__law_chance : List D → Option D
  | [a1] => Out.run (α := Unit) (β := Unit) (toR (op2 ixD (newO (Option.bind (consO (Option.bind (consO (op2 ixD (some a1) (some (.int 0))) (some [])) strTD) (consO (op2 addD (op2 addD (Option.bind (consO (op2 ixD (some a1) (some (.int 0))) (some [])) strTD) (some (.str "/"))) (Option.bind (consO (op2 ixD (some a1) (some (.int 1))) (some [])) strTD)) (some []))) szL)) (Option.bind (consO (op2 neX (op2 ixD (some a1) (some (.int 1))) (some (.int 1))) (some [])) intTD)))
  | _ => none
theorem ok__law_chance {f : Addr} {fd : FuncData} (F : Fun K "_law_chance" "_law_chance" s__law_chance f fd) (hm : mg "_law_chance" = some (.ref f)) (n_int : mg "int" = none) (n_str : mg "str" = none) : Df P w K mg base 1 "_law_chance" ["chance"] m__law_chance := by
  refine df_mk F sc__law_chance hm (F.binds fun _ _ _ _ _ _ us hl => match us, hl with | [_], _ => rfl) (fun ds d h => ?_) (by decide) fun cdv A outer s H E hr => ⟨_, pss_one (ps_ret (pe_ix (kIx K) (pe_lst (pa_cons (pe_callTy call_str_int (by rfl) n_str (by decide +kernel) (pa_cons (pe_ix (kIx K) (pv 0) (pe_int) (fun _ _ => rfl)) (pa_nil))) (pa_cons (pe_op op_addX (pe_op op_addX (pe_callTy call_str_int (by rfl) n_str (by decide +kernel) (pa_cons (pe_ix (kIx K) (pv 0) (pe_int) (fun _ _ => rfl)) (pa_nil))) (pe_str)) (pe_callTy call_str_int (by rfl) n_str (by decide +kernel) (pa_cons (pe_ix (kIx K) (pv 0) (pe_int) (fun _ _ => rfl)) (pa_nil)))) (pa_nil)))) (pe_callTy cr_intX (by rfl) n_int (by decide +kernel) (pa_cons (pe_cmpR (kNeX K rfl hr.units) (pe_ix (kIx K) (pv 0) (pe_int) (fun _ _ => rfl)) (pe_int) (nomark _)) (pa_nil))) (fun _ _ => rfl))), fun ds d h => ?_⟩
  · match ds, h with
    | [a1], h => rfl
  · match ds, h with
    | [a1], h => exact ⟨Unit, fun _ => [], Unit, fun _ => [], _, ds_ret (dv_op od_ix (dv_new (dl_lst (da_cons (dv_cb cd_str (da_cons (dv_op od_ix (dv_var 0) (dv_int 0)) (da_nil))) (da_cons (dv_op od_add (dv_op od_add (dv_cb cd_str (da_cons (dv_op od_ix (dv_var 0) (dv_int 0)) (da_nil))) (dv_str _)) (dv_cb cd_str (da_cons (dv_op od_ix (dv_var 0) (dv_int 1)) (da_nil)))) (da_nil))))) (dv_cb cd_int (da_cons (dv_op od_neX (dv_op od_ix (dv_var 0) (dv_int 1)) (dv_int 1)) (da_nil)))), h⟩
abbrev s__law_line : Stmt := topS 10
abbrev N__law_line : List Str := ["place", "name", "names", "words", "branch"]
theorem sc__law_line : FnScope N__law_line ["place", "name", "names"] (defScope s__law_line) := ⟨rfl, rfl, rfl, by decide +kernel, rfl, by decide +kernel, by decide +kernel⟩
def b__law_line_1 (a1 : D) (a3 : D) : D → D → Out (D) (D) :=
  fun s6 v7 => (Out.bind (ifO (Option.bind (op2 eqX (op2 ixD (some a1) (some (.int 1))) (some (.str "draw"))) asB) (Out.bind (toO (op2 addD (some s6) (newO (Option.bind (consO (Option.bind (consO (op2 ixD (some v7) (some (.int 0))) (some [])) m__law_chance) (consO (op2 ixD (some a3) (op2 ixD (some v7) (some (.int 1)))) (some []))) szL)))) fun v9 => .nx v9) (Out.bind (toO (op2 addD (some s6) (newO (Option.bind (consO (op2 ixD (some a3) (some v7)) (some [])) szL)))) fun v10 => .nx v10)) fun s8 => .nx s8)
def m__law_line : List D → Option D
  | [a1, a2, a3] => Out.run (α := Unit) (β := Unit) (Out.bind (toO (newO (Option.bind (consO (some a2) (consO (Option.bind (consO (op2 ixD (some a1) (some (.int 0))) (some [])) strTD) (consO (Option.bind (op2 ixD (some a1) (some (.int 1))) (getS [("ours", "ours"), ("theirs", "theirs"), ("draw", "chance")])) (some [])))) szL))) fun v4 =>
 (Out.bind (forR (b__law_line_1 a1 a3) (Option.bind (op2 ixD (some a1) (some (.int 2))) iterD) v4) fun s6 =>
 (toR (some s6))))
  | _ => none
theorem ok__law_line {f : Addr} {fd : FuncData} (F : Fun K "_law_line" "_law_line" s__law_line f fd) (hm : mg "_law_line" = some (.ref f)) (n_str : mg "str" = none) (D__law_chance : Df P w K mg base 1 "_law_chance" ["chance"] m__law_chance) : Df P w K mg base 2 "_law_line" ["place", "name", "names"] m__law_line := by
  refine df_mk F sc__law_line hm (F.binds fun _ _ _ _ _ _ us hl => match us, hl with | [_, _, _], _ => rfl) (fun ds d h => ?_) (by decide) fun cdv A outer s H E hr => ⟨_, pss_cons (ps_set (i := 3) sc__law_line.nd rfl (Or.inl rfl) (pe_lst (pa_cons (pv 1) (pa_cons (pe_callTy call_str_int (by rfl) n_str (by decide +kernel) (pa_cons (pe_ix (kIx K) (pv 0) (pe_int) (fun _ _ => rfl)) (pa_nil))) (pa_cons (kDget hr.units (pe_disp (pps_cons pe_str pe_str (pps_cons pe_str pe_str (pps_cons pe_str pe_str (pps_nil)))) rfl rfl (List.cons_ne_nil _ _) (Nat.le_of_ble_eq_true rfl)) (pe_ix (kIx K) (pv 0) (pe_int) (fun _ _ => rfl)) (fun _ _ => rfl)) (pa_nil))))))
 (pss_cons (ps_for PassesOwn.never rfl (kiAny K (pe_ix (kIx K) (pv 0) (pe_int) (fun _ _ => rfl))) (pg_name (i := 4) sc__law_line.nd rfl (Or.inl rfl)) (pss_one (ps_if (pt_cmpR (kEqX K rfl hr.units) (pe_ix (kIx K) (pv 0) (pe_int) (fun _ _ => rfl)) (pe_str) (nomark _)) (pss_one (ps_set (i := 3) sc__law_line.nd rfl (Or.inl rfl) (pe_op op_addX (pv 3) (pe_lst (pa_cons (kDf K D__law_chance (hr.mono (by decide)) (by rfl) (pa_cons (pe_ix (kIx K) (pv 4) (pe_int) (fun _ _ => rfl)) (pa_nil))) (pa_cons (pe_ix (kIx K) (pv 2) (pe_ix (kIx K) (pv 4) (pe_int) (fun _ _ => rfl)) (fun _ _ => rfl)) (pa_nil))))))) (pss_one (ps_set (i := 3) sc__law_line.nd rfl (Or.inl rfl) (pe_op op_addX (pv 3) (pe_lst (pa_cons (pe_ix (kIx K) (pv 2) (pv 4) (fun _ _ => rfl)) (pa_nil)))))))))
 (pss_one (ps_ret (pv 3)))), fun ds d h => ?_⟩
  · match ds, h with
    | [a1, a2, a3], h => rfl
  · match ds, h with
    | [a1, a2, a3], h => exact ⟨Unit, fun _ => [], Unit, fun _ => [], _, ds_seq (ds_set (i := 3) (dv_new (dl_lst (da_cons (dv_var 1) (da_cons (dv_cb cd_str (da_cons (dv_op od_ix (dv_var 0) (dv_int 0)) (da_nil))) (da_cons (dv_dispS (kvs := [("ours", "ours"), ("theirs", "theirs"), ("draw", "chance")]) (by decide) (dv_op od_ix (dv_var 0) (dv_int 1))) (da_nil))))))) (fun v4 =>
 ds_seq (ds_forN (j := 4) (e := fun (s6 : D) => [.sh a1, .sh a2, .sh a3, .sh s6, .un]) (body := fun s6 v7 => (Out.bind (ifO (Option.bind (op2 eqX (op2 ixD (some a1) (some (.int 1))) (some (.str "draw"))) asB) (Out.bind (toO (op2 addD (some s6) (newO (Option.bind (consO (Option.bind (consO (op2 ixD (some v7) (some (.int 0))) (some [])) m__law_chance) (consO (op2 ixD (some a3) (op2 ixD (some v7) (some (.int 1)))) (some []))) szL)))) fun v9 => .nx v9) (Out.bind (toO (op2 addD (some s6) (newO (Option.bind (consO (op2 ixD (some a3) (some v7)) (some [])) szL)))) fun v10 => .nx v10)) fun s8 => .nx s8)) (a0 := v4) (di_any (dv_op od_ix (dv_var 0) (dv_int 2))) (Le.cons (.refl _) (Le.cons (.refl _) (Le.cons (.refl _) (Le.cons (.refl _) (Le.cons (.refl _) (Le.nil)))))) (fun s6 v7 => ds_end (ec := (fun (s6 : D) => [.sh a1, .sh a2, .sh a3, .sh s6, .un])) (g := fun s8 => s8) (fun s8 => Le.cons (.refl _) (Le.cons (.refl _) (Le.cons (.refl _) (Le.cons (.refl _) (Le.cons (.un _) (Le.nil)))))) (ds_if (en := fun (s8 : D) => [.sh a1, .sh a2, .sh a3, .sh s8, .sh v7]) (dt_test (dv_op od_eqX (dv_op od_ix (dv_var 0) (dv_int 1)) (dv_str _))) (ds_end (ec := (fun (s8 : D) => [.sh a1, .sh a2, .sh a3, .sh s8, .sh v7])) (g := fun v9 => v9) (fun v9 => Le.cons (.refl _) (Le.cons (.refl _) (Le.cons (.refl _) (Le.cons (.refl _) (Le.cons (.refl _) (Le.nil)))))) (ds_set (i := 3) (dv_op od_add (dv_var 3) (dv_new (dl_lst (da_cons (dv_call (da_cons (dv_op od_ix (dv_var 4) (dv_int 0)) (da_nil))) (da_cons (dv_op od_ix (dv_var 2) (dv_op od_ix (dv_var 4) (dv_int 1))) (da_nil)))))))) (ds_end (ec := (fun (s8 : D) => [.sh a1, .sh a2, .sh a3, .sh s8, .sh v7])) (g := fun v10 => v10) (fun v10 => Le.cons (.refl _) (Le.cons (.refl _) (Le.cons (.refl _) (Le.cons (.refl _) (Le.cons (.refl _) (Le.nil)))))) (ds_set (i := 3) (dv_op od_add (dv_var 3) (dv_new (dl_lst (da_cons (dv_op od_ix (dv_var 2) (dv_var 4)) (da_nil)))))))))) (fun s6 =>
 ds_ret (dv_var 3))), h⟩
abbrev s__law_text : Stmt := topS 11
abbrev N__law_text : List Str := ["lines", "words"]
theorem sc__law_text : FnScope N__law_text ["lines"] (defScope s__law_text) := ⟨rfl, rfl, rfl, by decide +kernel, rfl, by decide +kernel, by decide +kernel⟩
def m__law_text : List D → Option D
  | [a1] => Out.run (α := Unit) (β := Unit) (toR (op2 joinD (some (.str "")) (newO (Option.bind (Option.bind (some a1) iterD) (lcZ (fun v2 => (some true)) (fun v2 => (op2 addD (op2 joinD (some (.str " ")) (some v2)) (some (.str "\n")))))))))
  | _ => none
theorem ok__law_text {f : Addr} {fd : FuncData} (F : Fun K "_law_text" "_law_text" s__law_text f fd) (hm : mg "_law_text" = some (.ref f))  : Df P w K mg base 1 "_law_text" ["lines"] m__law_text := by
  refine df_mk F sc__law_text hm (F.binds fun _ _ _ _ _ _ us hl => match us, hl with | [_], _ => rfl) (fun ds d h => ?_) (by decide) fun cdv A outer s H E hr => ⟨_, pss_one (ps_ret (kJoin K (pe_str) (pe_lc (own := [("words", 1)]) (g := gName 1) rfl sc__law_text.nd (kiAny K (pv 0)) (blkOk_by (N := N__law_text) (sc := defScope s__law_text) (own := [("words", 1)]) (by decide +kernel)) (fun _ _ _ _ _ => pg_name (i := 1) sc__law_text.nd rfl (Or.inl rfl)) (fun _ _ _ _ _ => pts_nil) (fun _ _ _ _ _ => pe_op op_addX (kJoin K (pe_str) (pv 1)) (pe_str))))), fun ds d h => ?_⟩
  · match ds, h with
    | [a1], h => rfl
  · match ds, h with
    | [a1], h => exact ⟨Unit, fun _ => [], Unit, fun _ => [], _, ds_ret (dv_join (dv_str _) (dv_new (dl_lcN (j := 1) (di_any (dv_var 0)) (fun v2 => dt_yes) (fun v2 => dv_op od_add (dv_join (dv_str _) (dv_var 1)) (dv_str _))))), h⟩
abbrev s_law : Stmt := topS 12
abbrev N_law : List Str := ["script", "draws", "game", "names", "kept", "written", "due", "k"]
theorem sc_law : FnScope N_law ["script"] (defScope s_law) := ⟨rfl, rfl, rfl, by decide +kernel, rfl, by decide +kernel, by decide +kernel⟩
def m_law (ns : List Int) : List D → Option D
  | [] => Out.run (α := Unit) (β := Unit) (Out.bind (toO (Option.bind (consO (some (.int 342)) (some [])) (m__law_draws ns))) fun v1 =>
 (Out.bind (toO (Option.bind (consO (some v1) (consO (some (.int 24)) (some []))) m__law_wide)) fun v2 =>
 (Out.bind (toO (Option.bind (consO (op2 ixD (some v1) (some (.int 340))) (consO (op2 ixD (some v1) (some (.int 341))) (consO (Option.bind (consO (some v2) (some [])) lenD) (some [])))) m__law_names)) fun v3 =>
 (Out.bind (toO (Option.bind (consO (Option.bind (consO (some v2) (consO (some v3) (some []))) tupD) (some [])) reprD)) fun v4 =>
 (Out.bind (toO (Option.bind (consO (some v2) (consO (some v3) (some []))) m_write_sheet)) fun v5 =>
 (Out.bind (toO (Option.bind (consO (newO (Option.bind (Option.bind (consO (Option.bind (consO (some v2) (some [])) lenD) (some [])) rng1D) (lcZ (fun v7 => (some true)) (fun v7 => (Option.bind (consO (op2 ixD (some v2) (some v7)) (consO (op2 ixD (some v3) (some v7)) (consO (some v3) (some [])))) m__law_line))))) (some [])) m__law_text)) fun v6 =>
 (toR (andV (isO "str" (some v5)) (andV (op2 eqX (some v5) (some v6)) (op2 eqX (Option.bind (consO (Option.bind (consO (some v2) (consO (some v3) (some []))) tupD) (some [])) reprD) (some v4)))))))))))
  | _ => none
theorem ok_law {f : Addr} {fd : FuncData} (F : Fun K "law" "law" s_law f fd) (n_isinstance : mg "isinstance" = none) (n_len : mg "len" = none) (n_range : mg "range" = none) (n_repr : mg "repr" = none) (n_str : mg "str" = none) (D__law_draws : DfS P w K mg base 1 "_law_draws" ["script", "count"] m__law_draws) (D__law_wide : Df P w K mg base 2 "_law_wide" ["draws", "most"] m__law_wide) (D__law_names : Df P w K mg base 1 "_law_names" ["first", "second", "many"] m__law_names) (D_write_sheet : Df P w K mg base 3 "write_sheet" ["game", "names"] m_write_sheet) (D__law_text : Df P w K mg base 1 "_law_text" ["lines"] m__law_text) (D__law_line : Df P w K mg base 2 "_law_line" ["place", "name", "names"] m__law_line) : RunG P w K mg base 4 f fd ["script"] (spS K m_law) := by
  refine runGS_mk F sc_law (fun ns ds d h => ?_) (by decide) fun cdv A outer s H E hg hr => ⟨_, pss_cons (ps_set (i := 1) sc_law.nd rfl (Or.inl rfl) (kDfS K D__law_draws (hr.mono (by decide)) (by rfl) (pa_cons (pv 0) (pa_cons (pe_int) (pa_nil)))))
 (pss_cons (ps_set (i := 2) sc_law.nd rfl (Or.inr rfl) (kDf K D__law_wide (hr.mono (by decide)) (by rfl) (pa_cons (pv 1) (pa_cons (pe_int) (pa_nil)))))
 (pss_cons (ps_set (i := 3) sc_law.nd rfl (Or.inr rfl) (kDf K D__law_names (hr.mono (by decide)) (by rfl) (pa_cons (pe_ix (kIx K) (pv 1) (pe_int) (fun _ _ => rfl)) (pa_cons (pe_ix (kIx K) (pv 1) (pe_int) (fun _ _ => rfl)) (pa_cons (pe_callB (kLen K) (by rfl) n_len (by decide +kernel) (pa_cons (pv 2) (pa_nil))) (pa_nil))))))
 (pss_cons (ps_set (i := 4) sc_law.nd rfl (Or.inl rfl) (pe_callB (kRepr K hg hr.units) (by rfl) n_repr (by decide +kernel) (pa_cons (pe_tup (pa_cons (pv 2) (pa_cons (pv 3) (pa_nil)))) (pa_nil))))
 (pss_cons (ps_set (i := 5) sc_law.nd rfl (Or.inl rfl) (kDf K D_write_sheet (hr.mono (by decide)) (by rfl) (pa_cons (pv 2) (pa_cons (pv 3) (pa_nil)))))
 (pss_cons (ps_set (i := 6) sc_law.nd rfl (Or.inl rfl) (kDf K D__law_text (hr.mono (by decide)) (by rfl) (pa_cons (pe_lc (own := [("k", 7)]) (g := gName 7) rfl sc_law.nd (pi_range1 (by rfl) n_range (pa_cons (pe_callB (kLen K) (by rfl) n_len (by decide +kernel) (pa_cons (pv 2) (pa_nil))) (pa_nil))) (blkOk_by (N := N_law) (sc := defScope s_law) (own := [("k", 7)]) (by decide +kernel)) (fun _ _ _ _ _ => pg_name (i := 7) sc_law.nd rfl (Or.inl rfl)) (fun _ _ _ _ _ => pts_nil) (fun _ _ _ _ _ => kDf K D__law_line (hr.mono (by decide)) (by rfl) (pa_cons (pe_ix (kIx K) (pv 2) (pv 7) (fun _ _ => rfl)) (pa_cons (pe_ix (kIx K) (pv 3) (pv 7) (fun _ _ => rfl)) (pa_cons (pv 3) (pa_nil)))))) (pa_nil))))
 (pss_one (ps_ret (pe_and (pe_callB (kIsi K) (by rfl) n_isinstance (by decide +kernel) (pa_cons (pv 5) (pa_cons (pe_bltn (v := .ty "str") (by rfl) n_str (by decide +kernel) rfl) pa_nil))) (pe_and (pe_cmpR (kEqX K rfl hr.units) (pv 5) (pv 6) (nomark _)) (pe_one (pe_cmpR (kEqX K rfl hr.units) (pe_callB (kRepr K hg hr.units) (by rfl) n_repr (by decide +kernel) (pa_cons (pe_tup (pa_cons (pv 2) (pa_cons (pv 3) (pa_nil)))) (pa_nil))) (pv 4) (nomark _)))))))))))), fun ns ds d h => ?_⟩
  · match ds, h with
    | [], h => rfl
  · match ds, h with
    | [], h => exact ⟨Unit, fun _ => [], Unit, fun _ => [], _, ds_seq (ds_set (i := 1) (dv_callS 0 (da_cons (dv_int 342) (da_nil)))) (fun v1 =>
 ds_seq (ds_set (i := 2) (dv_call (da_cons (dv_var 1) (da_cons (dv_int 24) (da_nil))))) (fun v2 =>
 ds_seq (ds_set (i := 3) (dv_call (da_cons (dv_op od_ix (dv_var 1) (dv_int 340)) (da_cons (dv_op od_ix (dv_var 1) (dv_int 341)) (da_cons (dv_cb cd_len (da_cons (dv_var 2) (da_nil))) (da_nil)))))) (fun v3 =>
 ds_seq (ds_set (i := 4) (dv_cb cd_repr (da_cons (dv_tup (da_cons (dv_var 2) (da_cons (dv_var 3) (da_nil)))) (da_nil)))) (fun v4 =>
 ds_seq (ds_set (i := 5) (dv_call (da_cons (dv_var 2) (da_cons (dv_var 3) (da_nil))))) (fun v5 =>
 ds_seq (ds_set (i := 6) (dv_call (da_cons (dv_new (dl_lcN (j := 7) (di_rng1 (da_cons (dv_cb cd_len (da_cons (dv_var 2) (da_nil))) (da_nil))) (fun v7 => dt_yes) (fun v7 => dv_call (da_cons (dv_op od_ix (dv_var 2) (dv_var 7)) (da_cons (dv_op od_ix (dv_var 3) (dv_var 7)) (da_cons (dv_var 3) (da_nil))))))) (da_nil)))) (fun v6 =>
 ds_ret (dv_and (dv_isi okT_str (dv_var 5)) (dv_and (dv_op od_eqX (dv_var 5) (dv_var 6)) (dv_op od_eqX (dv_cb cd_repr (da_cons (dv_tup (da_cons (dv_var 2) (da_cons (dv_var 3) (da_nil)))) (da_nil))) (dv_var 4)))))))))), h⟩
end
end Lw

set_option maxRecDepth 100000
set_option maxHeartbeats 4000000
set_option linter.all false
namespace Lw
open PySem PySem.Spec PyProof.Rows L2 Dl
def DrawsAre (n : Nat) (k : Nat) (a : List D × List D) : Prop := ∃ rs ds : List Int, a = (dInts rs, dInts ds) ∧ rs.length = n ∧ ds.length = k ∧ ∀ v ∈ ds, 0 ≤ v ∧ v < 1000
theorem asB_b {b : Bool} : asB (.bool b) = some b := rfl
theorem draws_turn {n k : Nat} (hk : k ≤ 100000) (hn : n ≤ 63) {a : List D × List D} (h : DrawsAre n k a) : ∃ b, b__law_draws_1 a (.int (0 + k)) = .nx b ∧ DrawsAre n (k + 1) b := by
  obtain ⟨rs, ds, rfl, h1, h2, h3⟩ := h
  have app : ∀ v : Int, 0 ≤ v → v < 1000 → addL (dInts ds) (.int v) = some (dInts (ds ++ [v])) ∧ ∀ w ∈ ds ++ [v], 0 ≤ w ∧ w < 1000 := fun v a b => by
    refine ⟨?_, fun w hw => ?_⟩
    · rw [addL_ok (by rw [List.length_map]; omega)]; exact congrArg some (dInts_app (b := [v]))
    · rcases List.mem_append.mp hw with z | z
      · exact h3 w z
      · simp at z; subst z; exact ⟨a, b⟩
  have lenR : (dInts rs).length = n := by rw [List.length_map, h1]
  unfold b__law_draws_1
  simp only [toO, Out.bind, consO, Option.bind_some, lenD, op2, gtD, intD0, asB, intTD, lenR]
  by_cases h0 : n = 0
  · subst h0
    have e := app 0 (by omega) (by omega)
    simp only [Int.natCast_zero, Int.lt_irrefl, decide_false, ifO, e.1]
    exact ⟨_, rfl, rs, ds ++ [0], rfl, h1, by simp [h2], e.2⟩
  · have hp : (0 : Int) < n := by omega
    have hat := Int.emod_nonneg (0 + (k : Int)) (show (n : Int) ≠ 0 by omega)
    have hat2 := Int.emod_lt_of_pos (0 + (k : Int)) hp
    generalize hw : (0 + (k : Int)) % (n : Int) = w at hat hat2
    have ix : ixD (.list (dInts rs)) (.int w) = some (.int (rs.getD w.toNat 0)) := atI_ints hat (by rw [h1]; exact hat2)
    generalize rs.getD w.toNat 0 = r at ix
    have pw : powD (.int 10) (.int 18) = some (.int 1000000000000000000) := rfl
    simp only [decide_eq_true hp, ifO, mod_ok hp, hw, atomO, atom, Option.bind_some, if_true, Out.bind, toO, ix, pw, geD, intD0, asB, intTD]
    by_cases hr : (1000000000000000000 : Int) ≤ r
    · have e := app (r % 1000) (Int.emod_nonneg _ (by omega)) (Int.emod_lt_of_pos _ (by omega))
      have m1 : modD (.int r) (.int 1000) = some (.int (r % 1000)) := mod_ok (by omega)
      have f1 : fdivD (.int r) (.int 1000) = some (.int (r / 1000)) := fdiv_ok (by omega)
      simp only [decide_eq_true hr, m1, f1, setIO, atomO, atom, Option.bind_some, if_true, toO, Out.bind, setL_ints (v := r / 1000) hat (show w < rs.length by rw [h1]; exact hat2), e.1]
      exact ⟨_, rfl, rs.set w.toNat (r / 1000), ds ++ [r % 1000], rfl, by rw [List.length_set, h1], by simp [h2], e.2⟩
    · have m1 : mulX (.int r) (.int 48271) = some (.int (r * 48271)) := mul_ok (by decide)
      have m2 : mulX (.int (0 + (k : Int))) (.int 69621) = some (.int ((0 + (k : Int)) * 69621)) := mul_ok (by decide)
      have m3 : ∀ i : Int, mulX (.int i) (.int 16807) = some (.int (i * 16807)) := fun i => mul_ok (by decide)
      have m4 : ∀ i : Int, modD (.int i) (.int 2147483647) = some (.int (i % 2147483647)) := fun i => mod_ok (by omega)
      have m5 : ∀ i : Int, modD (.int i) (.int 2147483629) = some (.int (i % 2147483629)) := fun i => mod_ok (by omega)
      have m6 : ∀ i : Int, fdivD (.int i) (.int 7) = some (.int (i / 7)) := fun i => fdiv_ok (by omega)
      have m7 : ∀ i : Int, modD (.int i) (.int 1000) = some (.int (i % 1000)) := fun i => mod_ok (by omega)
      simp only [decide_eq_false hr, m1, m2, m3, m4, m5, m6, m7, add_ok, atomO, atom, Option.bind_some, if_true, toO, Out.bind, intTD]
      generalize ((_ : Int) / 7) = z
      have e := app (z % 1000) (Int.emod_nonneg _ (by omega)) (Int.emod_lt_of_pos _ (by omega))
      simp only [e.1]
      exact ⟨_, rfl, rs, ds ++ [z % 1000], rfl, h1, by simp [h2], e.2⟩
theorem draws_ok (ns : List Int) (hn : ns.length ≤ 63) (c : Nat) (hc : c ≤ 100000) : ∃ ds : List Int, m__law_draws ns [.int c] = some (.list (dInts ds)) ∧ ds.length = c ∧ ∀ v ∈ ds, 0 ≤ v ∧ v < 1000 := by
  unfold m__law_draws
  simp only [Option.bind_some, consO, toO, Out.bind, lcZ_id (xs := ns.map PyData.int) (by rw [List.length_map]; omega), szL_nil, rng1D_is (n := c) (by omega), forR]
  obtain ⟨b, hb, ib⟩ := forO_inv (β := Unit) (body := b__law_draws_1) (I := DrawsAre ns.length) (xs := rngD 0 c) (k := 0) (a := (ns.map PyData.int, [])) ⟨ns, [], rfl, rfl, rfl, by simp⟩ fun i a x hx hi => by
    obtain ⟨hl, rfl⟩ := rngD_get hx
    rw [Nat.zero_add] at hi ⊢
    obtain ⟨b, hb, ib⟩ := draws_turn (by omega) hn hi
    exact ⟨b, .inl hb, ib⟩
  rw [rngD_len, Nat.zero_add] at ib
  obtain ⟨rs, ds, rfl, h1, h2, h3⟩ := ib
  rw [hb]
  exact ⟨ds, rfl, h2, h3⟩
end Lw

set_option maxRecDepth 100000
set_option maxHeartbeats 4000000
set_option linter.all false
namespace Lw
open PySem PySem.Spec PyProof.Rows L2 Dl
theorem eqX_int (a b : Int) : eqX (.int a) (.int b) = some (.bool (decide (a = b))) := rfl
theorem euclid : ∀ (xs : List D) (a b : Nat), b < xs.length → (forO b__law_lowest_1 xs (.int a, .int b) : Out (D × D) Unit) = .nx (.int ((Nat.gcd a b : Nat) : Int), .int 0)
  | [], a, b, h => by simp at h
  | x :: xs, a, b, h => by
    unfold forO
    have hb : b__law_lowest_1 (.int a, .int b) x = if b = 0 then .bk (.int a, .int b) else .nx (.int b, .int ((a % b : Nat) : Int)) := by
      unfold b__law_lowest_1
      simp only [op2, Option.bind_some, eqX_int, asB, consO, intTD]
      by_cases h0 : b = 0
      · rw [if_pos h0, decide_eq_true (show (b : Int) = 0 by omega)]; rfl
      · rw [if_neg h0, decide_eq_false (show ¬ (b : Int) = 0 by omega), mod_ok (show (0 : Int) < b by omega)]
        rfl
    rw [hb]
    by_cases h0 : b = 0
    · subst h0; rw [if_pos rfl, Nat.gcd_zero_right]; rfl
    · rw [if_neg h0]
      simp only []
      have hl : a % b < b := Nat.mod_lt _ (by omega)
      rw [euclid xs b (a % b) (by simp at h; omega), Nat.gcd_comm b, ← Nat.gcd_rec, Nat.gcd_comm]
theorem rng_4000 : rng1D [.int 4000] = some (rngD 0 4000) := rng1D_is (n := 4000) (by decide)
theorem lowest_ok (n d : Nat) (hd : 0 < d) (hd2 : d < 4000) (hn : n < 1000000) : m__law_lowest [.int n, .int d] = some (.tuple [.int ((n / Nat.gcd n d : Nat) : Int), .int ((d / Nat.gcd n d : Nat) : Int)]) := by
  have hg : 0 < Nat.gcd n d := Nat.gcd_pos_of_pos_right _ hd
  have hg2 : Nat.gcd n d ≤ d := Nat.gcd_le_right _ hd
  unfold m__law_lowest
  simp only [consO, Option.bind_some, twoO, toO, Out.bind, op2, ltD, intD0, asB, decide_eq_false (show ¬ (n : Int) < 0 by omega), ifO, rng_4000, forR, euclid (rngD 0 4000) n d (by rw [rngD_len]; exact hd2),
    fdiv_ok (show (0 : Int) < (Nat.gcd n d : Nat) ∧ ((Nat.gcd n d : Nat) : Int) < 1073741824 by omega), tupD_two, toR, Out.run]
  rfl
end Lw

set_option maxRecDepth 100000
set_option maxHeartbeats 4000000
set_option linter.all false
namespace Lw
open PySem PySem.Spec PyProof.Rows L2 Dl
abbrev tlx (z : Str) : List Nat := TL.tl z
theorem app_len (a b : Str) : (a ++ b).length = a.length + b.length := by rw [TL.len_tl, TL.len_tl, TL.len_tl, TL.tl_append, List.length_append]
abbrev num (i : Int) : Str := toString i
theorem num_ok {i : Int} (h0 : 0 ≤ i) (h1 : i < 1000000000) : strTD [.int i] = some (.str (num i)) ∧ fmtD (.int i) = some (.str (num i)) ∧ (num i).length ≤ 9 := by
  obtain ⟨d, e, z, rfl, hz⟩ := strT_le (x := .int i) (hi := 999999999) ⟨i, rfl, h0, by omega⟩ (k := 9) (by decide) (by decide) (by decide)
  have e' : (if i.natAbs.log2 < 1920 then some (PyData.str (toString i)) else none) = some (.str z) := e
  by_cases hl : i.natAbs.log2 < 1920
  · rw [if_pos hl] at e'; cases e'
    exact ⟨e, if_pos hl, hz⟩
  · rw [if_neg hl] at e'; cases e'
theorem fits {n : Nat} (h : n ≤ 1000000) : n ≤ sizeLine := Nat.le_trans h million_le
theorem add_s {a b : Str} (h : a.length + b.length ≤ 1000000) : addD (.str a) (.str b) = some (.str (a ++ b)) := if_pos (fits h)
theorem cat_s {a b : Str} (h : (a ++ b).length ≤ 1000000) : catJ a (.str b) = some (a ++ b) := if_pos (fits h)
theorem empty_app (z : Str) : Str.empty ++ z = z := TL.ext_tl (by rw [TL.tl_append]; rfl)
theorem fmt_s {z : Str} (h : z.length ≤ 1000000) : fmtD (.str z) = some (.str z) := if_pos (fits h)
/-- the text of a chance -/
def ct (n d : Int) : Str := if d = 1 then num n else num n ++ ("/" : Str) ++ num d
theorem slash1 : ("/" : Str).length = 1 := by decide +kernel
theorem ct_len {n d : Int} (h0 : 0 ≤ n) (h1 : n < 1000000000) (h2 : 0 ≤ d) (h3 : d < 1000000000) : (ct n d).length ≤ 19 := by
  have a := (num_ok h0 h1).2.2; have b := (num_ok h2 h3).2.2
  unfold ct
  by_cases h : d = 1
  · rw [if_pos h]; omega
  · rw [if_neg h, app_len, app_len, slash1]; omega
theorem eqX_i (a b : Int) : eqX (.int a) (.int b) = some (.bool (decide (a = b))) := rfl
theorem neX_i (a b : Int) : neX (.int a) (.int b) = some (.bool (!decide (a = b))) := rfl
theorem eqX_s (a b : Str) : eqX (.str a) (.str b) = some (.bool (decide (a = b))) := rfl
theorem write_chance {n d : Int} (h0 : 0 ≤ n) (h1 : n < 1000000000) (h2 : 0 ≤ d) (h3 : d < 1000000000) : m__write_chance [.tuple [.int n, .int d]] = some (.str (ct n d)) := by
  obtain ⟨a1, a2, a3⟩ := num_ok h0 h1
  obtain ⟨b1, b2, b3⟩ := num_ok h2 h3
  unfold m__write_chance
  simp only [Option.bind_some, asU, twoO, toO, Out.bind, op2, eqX_i, asB, iteV, consO, a1, a2, b2, fsO]
  unfold ct
  by_cases h : d = 1
  · simp only [h, decide_true, if_true]; rfl
  · simp only [h, decide_false, if_false, Bool.false_eq_true]
    have c1 : catJ Str.empty (.str (num n)) = some (num n) := by rw [cat_s (by rw [empty_app]; omega), empty_app]
    have c2 : catJ (num n) (.str ("/" : Str)) = some (num n ++ ("/" : Str)) := cat_s (by rw [app_len, slash1]; omega)
    have c3 : catJ (num n ++ ("/" : Str)) (.str (num d)) = some (num n ++ ("/" : Str) ++ num d) := cat_s (by rw [app_len, app_len, slash1]; omega)
    simp only [consJ, c1, c2, c3, Option.bind_some, toR, Out.run]
theorem law_chance {n d : Int} (h0 : 0 ≤ n) (h1 : n < 1000000000) (h2 : 0 ≤ d) (h3 : d < 1000000000) : m__law_chance [.tuple [.int n, .int d]] = some (.str (ct n d)) := by
  obtain ⟨a1, a2, a3⟩ := num_ok h0 h1
  obtain ⟨b1, b2, b3⟩ := num_ok h2 h3
  have i0 : ixD (.tuple [.int n, .int d]) (.int 0) = some (.int n) := rfl
  have i1 : ixD (.tuple [.int n, .int d]) (.int 1) = some (.int d) := rfl
  unfold m__law_chance
  simp only [Option.bind_some, op2, i0, i1, neX_i, asB, consO, a1, b1, add_s (a := num n) (b := ("/" : Str)) (by rw [slash1]; omega), add_s (a := num n ++ ("/" : Str)) (b := num d) (by rw [app_len, slash1]; omega), newO,
    szL_ok (ds := [PyData.str (num n), .str (num n ++ ("/" : Str) ++ num d)]) (show 2 ≤ 1000000 by decide)]
  unfold ct
  by_cases h : d = 1
  · simp only [h, decide_true]; rfl
  · simp only [h, decide_false]; rfl
/-- a name at its place -/
def nm (ss : List Str) (t : Int) : Str := ss.getD t.toNat Str.empty
theorem ix_nm {ss : List Str} {t : Int} (h0 : 0 ≤ t) (h1 : t < ss.length) : ixD (.list (ss.map PyData.str)) (.int t) = some (.str (nm ss t)) := by
  have hl : t.toNat < ss.length := by omega
  show atI (ss.map PyData.str) t = _
  unfold atI
  rw [List.length_map, ixN_in h0 h1]
  show (ss.map PyData.str)[t.toNat]? = _
  rw [List.getElem?_map, List.getElem?_eq_getElem hl]
  unfold nm
  rw [List.getD_eq_getElem?_getD, List.getElem?_eq_getElem hl]; rfl
theorem nm_len {ss : List Str} {t : Int} (h : ∀ s ∈ ss, s.length ≤ 10) (h0 : 0 ≤ t) (h1 : t < ss.length) : (nm ss t).length ≤ 10 := by
  have hl : t.toNat < ss.length := by omega
  unfold nm
  rw [List.getD_eq_getElem?_getD, List.getElem?_eq_getElem hl]
  exact h _ (List.getElem_mem hl)
/-- what a loop appends -/
theorem for_app {body : D → D → Out D D} {α : Type} {h : α → D} {g : α → List D} {c : Nat} : ∀ {xs : List α} {acc : List D}, (∀ x ∈ xs, (g x).length ≤ c) → acc.length + xs.length * c ≤ 1000000 → (∀ x ∈ xs, ∀ acc : List D, acc.length + c ≤ 1000000 → body (.list acc) (h x) = .nx (.list (acc ++ g x))) →
    (forO body (xs.map h) (.list acc) : Out D Unit) = .nx (.list (acc ++ xs.flatMap g))
  | [], acc, _, _, _ => by simp [forO]
  | x :: xs, acc, hc, hz, hb => by
    have c1 := hc x (by simp)
    have m : (xs.length + 1) * c = xs.length * c + c := Nat.succ_mul _ _
    rw [List.length_cons, m] at hz
    rw [List.map_cons]
    unfold forO
    rw [hb x (by simp) acc (by omega)]
    show forO body (xs.map h) (.list (acc ++ g x)) = _
    rw [for_app (xs := xs) (fun y hy => hc y (by simp [hy])) (by rw [List.length_append]; omega) fun y hy => hb y (by simp [hy]), List.flatMap_cons, List.append_assoc]
end Lw

set_option maxRecDepth 100000
set_option maxHeartbeats 4000000
set_option linter.all false
namespace Lw
open PySem PySem.Spec PyProof.Rows L2 Dl
abbrev sp1 : Str := " "
theorem sp_len : sp1.length = 1 := by decide +kernel
theorem nl_len : ("\n" : Str).length = 1 := by decide +kernel
theorem strs_map : ∀ ys : List Str, strsD (ys.map PyData.str) = some ys
  | [] => rfl
  | y :: ys => by
    show (strsD (ys.map PyData.str)).map (y :: ·) = _
    rw [strs_map ys]; rfl
theorem sum_le {n : Nat} : ∀ {ys : List Str}, (∀ y ∈ ys, y.length ≤ n) → (ys.map (·.length)).sum ≤ ys.length * n
  | [], _ => Nat.zero_le _
  | y :: ys, h => by
    have := sum_le (ys := ys) fun z hz => h z (by simp [hz])
    have := h y (by simp)
    rw [List.map_cons, List.sum_cons, List.length_cons, Nat.succ_mul]; omega
theorem joinL_le (S : List Nat) : ∀ ls : List (List Nat), (TL.joinL S ls).length ≤ (ls.map List.length).sum + ls.length * S.length
  | [] => Nat.zero_le _
  | [x] => by show x.length ≤ _; simp
  | x :: y :: r => by
    have := joinL_le S (y :: r)
    show (x ++ (S ++ TL.joinL S (y :: r))).length ≤ _
    rw [List.length_append, List.length_append, List.map_cons, List.sum_cons, List.length_cons (a := x), Nat.succ_mul]; omega
theorem join_s {s : Str} {ys : List Str} {n k : Nat} (h : ∀ y ∈ ys, y.length ≤ n) (hk : ys.length ≤ k) (hs : s.length ≤ 1) (hz : k * (n + 1) ≤ 1000000) : joinD (.str s) (.list (ys.map PyData.str)) = some (.str (Txt.join s ys)) ∧ (Txt.join s ys).length ≤ k * (n + 1) := by
  have h1 := sum_le h
  have h2 : ys.length * n ≤ k * n := Nat.mul_le_mul_right n hk
  have h3 : ys.length * s.length ≤ k * 1 := Nat.mul_le_mul hk hs
  have h4 : k * (n + 1) = k * n + k := Nat.mul_succ k n
  refine ⟨?_, ?_⟩
  · show (strsD (ys.map PyData.str)).bind _ = _
    rw [strs_map]
    exact if_pos (by omega)
  · rw [TL.join_eq, TL.len_tl, TL.tl_join]
    have h5 := joinL_le (TL.tl s) (ys.map TL.tl)
    rw [List.map_map, show (List.length ∘ TL.tl) = (fun y : Str => y.length) from funext fun y => (TL.len_tl y).symm, List.length_map, ← TL.len_tl] at h5
    omega
theorem joinL_cons (S x : List Nat) : ∀ ls : List (List Nat), TL.joinL S (x :: ls) = x ++ ls.flatMap (S ++ ·)
  | [] => by show x = _; simp
  | y :: r => by
    show x ++ (S ++ TL.joinL S (y :: r)) = _
    rw [joinL_cons S y r, List.flatMap_cons, List.append_assoc]
/-- a draw's branches, joined either way -/
theorem join_two {α : Type} {a b c : Str} {f g : α → Str} (xs : List α) : Txt.join sp1 (a :: b :: c :: xs.map fun x => f x ++ sp1 ++ g x) = Txt.join sp1 (a :: b :: c :: xs.flatMap fun x => [f x, g x]) := by
  have e : ∀ xs : List α, ((xs.map fun x => f x ++ sp1 ++ g x).map TL.tl).flatMap (TL.tl sp1 ++ ·) = ((xs.flatMap fun x => [f x, g x]).map TL.tl).flatMap (TL.tl sp1 ++ ·) := fun xs => by
    induction xs with
    | nil => rfl
    | cons x xs ih =>
      simp only [List.map_cons, List.flatMap_cons, ih, TL.tl_append, List.map_append, List.flatMap_append, List.map_nil, List.flatMap_nil, List.append_nil, List.append_assoc]
  rw [TL.join_eq, TL.join_eq]
  apply TL.ext_tl
  rw [TL.tl_join, TL.tl_join]
  simp only [List.map_cons, joinL_cons, List.flatMap_cons, e]
theorem add_l {xs ys : List D} (h : xs.length + ys.length ≤ 1000000) : addD (.list xs) (.list ys) = some (.list (xs ++ ys)) := if_pos (fits h)
def bd (b : Int × Int × Int) : D := .tuple [.tuple [.int b.1, .int b.2.1], .int b.2.2]
def okB (N : Nat) (b : Int × Int × Int) : Prop := (0 ≤ b.1 ∧ b.1 < 1000000000) ∧ (0 ≤ b.2.1 ∧ b.2.1 < 1000000000) ∧ 0 ≤ b.2.2 ∧ b.2.2 < N
theorem join_comm2 : True := trivial
/-- a place that is not a draw: both lines -/
theorem line_plain {ss : List Str} {a k k2 : Str} {m : Int} {ts : List Int} (hs : ∀ s ∈ ss, s.length ≤ 10) (ha : a.length ≤ 10) (hm : 0 ≤ m ∧ m < 1000000000) (hk : k = "ours" ∨ k = "theirs") (hl : ts.length ≤ 6) (ht : ∀ t ∈ ts, 0 ≤ t ∧ t < ss.length) :
    ∃ ys : List Str, (∀ y ∈ ys, y.length ≤ 40) ∧ ys.length ≤ 20 ∧ m__write_line [.str a, .tuple [.int m, .str k, .list (ts.map PyData.int)], .list (ss.map PyData.str)] = some (.str (Txt.join sp1 ys ++ ("\n" : Str))) ∧
      m__law_line [.tuple [.int m, .str k, .list (ts.map PyData.int)], .str a, .list (ss.map PyData.str)] = some (.list (ys.map PyData.str)) := by
  obtain ⟨n1, n2, n3⟩ := num_ok hm.1 hm.2
  have kd : decide (k = ("draw" : Str)) = false := by rcases hk with rfl | rfl <;> decide +kernel
  have kl : k.length ≤ 6 := by rcases hk with rfl | rfl <;> decide +kernel
  have kg : getS [("ours", "ours"), ("theirs", "theirs"), ("draw", "chance")] (.str k) = some (.str k) := by rcases hk with rfl | rfl <;> rfl
  have hy : ∀ y ∈ a :: num m :: k :: ts.map (nm ss), y.length ≤ 40 := fun y hy => by
    simp only [List.mem_cons, List.mem_map] at hy
    rcases hy with rfl | rfl | rfl | ⟨t, h, rfl⟩
    · omega
    · omega
    · omega
    · have := nm_len hs (ht t h).1 (ht t h).2; omega
  have hc : (a :: num m :: k :: ts.map (nm ss)).length ≤ 20 := by simp; omega
  have hj := join_s (s := sp1) hy hc (by rw [sp_len]; exact Nat.le_refl _) (by decide)
  refine ⟨a :: num m :: k :: ts.map (nm ss), hy, hc, ?_, ?_⟩
  · unfold m__write_line
    have lc : lcZ (fun _ => some true) (fun v12 => ixD (.list (ss.map PyData.str)) v12) (ts.map PyData.int) = some (ts.map fun t => .str (nm ss t)) := by
      unfold lcZ
      rw [if_pos (by rw [List.length_map]; exact fits (by omega))]
      have : ∀ ts : List Int, (∀ t ∈ ts, 0 ≤ t ∧ t < ss.length) → lcD (fun _ => some true) (fun v12 => ixD (.list (ss.map PyData.str)) v12) (ts.map PyData.int) = some (ts.map fun t => .str (nm ss t)) := fun ts => by
        induction ts with
        | nil => intro _; rfl
        | cons t ts ih =>
          intro h
          rw [List.map_cons]
          unfold lcD
          rw [ih fun x hx => h x (by simp [hx])]
          show (Option.bind (ixD (.list (ss.map PyData.str)) (.int t)) _) = _
          rw [ix_nm (h t (by simp)).1 (h t (by simp)).2]; rfl
      exact this ts ht
    have hm2 : (a :: num m :: k :: ts.map (nm ss)).map PyData.str = [.str a, .str (num m)] ++ ([.str k] ++ ts.map fun t => .str (nm ss t)) := by simp [List.map_map, Function.comp_def]
    simp only [Option.bind_some, asU, threeO, toO, Out.bind, op2, eqX_s, kd, asB, ifO, consO, szL_one, newO, iterD, lc, n1, szL_ok (ds := [PyData.str a, .str (num m)]) (show 2 ≤ 1000000 by decide)]
    rw [add_l (by simp; omega)]
    simp only [toO, Out.bind, Option.bind_some]
    rw [add_l (by simp; omega), Option.bind_some, ← hm2, hj.1, Option.bind_some, add_s (by rw [nl_len]; omega)]
    rfl
  · unfold m__law_line
    have i0 : ixD (.tuple [.int m, .str k, .list (ts.map PyData.int)]) (.int 0) = some (.int m) := rfl
    have i1 : ixD (.tuple [.int m, .str k, .list (ts.map PyData.int)]) (.int 1) = some (.str k) := rfl
    have i2 : ixD (.tuple [.int m, .str k, .list (ts.map PyData.int)]) (.int 2) = some (.list (ts.map PyData.int)) := rfl
    simp only [Option.bind_some, toO, Out.bind, op2, consO, i0, i1, i2, n1, kg, newO, szL_ok (ds := [PyData.str a, .str (num m), .str k]) (show 3 ≤ 1000000 by decide), iterD, forR]
    rw [for_app (h := PyData.int) (g := fun t => [.str (nm ss t)]) (c := 1) (fun _ _ => Nat.le_refl _) (by simp; omega) fun t h acc hz => ?_]
    · simp only [Out.bind, toR, Out.run]
      rw [← List.map_eq_flatMap]
      simp [List.map_map, Function.comp_def]
    · unfold b__law_line_1
      simp only [op2, Option.bind_some, i1, eqX_s, kd, asB, ifO, ix_nm (ht t h).1 (ht t h).2, consO, szL_one, newO, add_l (xs := acc) (ys := [PyData.str (nm ss t)]) hz, toO, Out.bind]
end Lw

set_option maxRecDepth 100000
set_option maxHeartbeats 4000000
set_option linter.all false
namespace Lw
open PySem PySem.Spec PyProof.Rows L2 Dl
theorem lcD_fun {α : Type} {f : D → Option D} {g h : α → D} : ∀ {xs : List α}, (∀ x ∈ xs, f (h x) = some (g x)) → lcD (fun _ => some true) f (xs.map h) = some (xs.map g)
  | [], _ => rfl
  | x :: xs, e => by
    rw [List.map_cons]
    unfold lcD
    rw [e x (by simp), lcD_fun fun y hy => e y (by simp [hy])]
    rfl
theorem lcD_fun2 {α : Type} {c : D → Option Bool} {f : D → Option D} {g h : α → D} : ∀ {xs : List α}, (∀ x ∈ xs, c (h x) = some true ∧ f (h x) = some (g x)) → lcD c f (xs.map h) = some (xs.map g)
  | [], _ => rfl
  | x :: xs, e => by
    rw [List.map_cons]
    unfold lcD
    rw [(e x (by simp)).1, (e x (by simp)).2, lcD_fun2 fun y hy => e y (by simp [hy])]
    rfl
theorem lcZ_fun2 {α : Type} {c : D → Option Bool} {f : D → Option D} {g h : α → D} {xs : List α} (hz : xs.length ≤ 1000000) (e : ∀ x ∈ xs, c (h x) = some true ∧ f (h x) = some (g x)) : lcZ c f (xs.map h) = some (xs.map g) := by
  unfold lcZ
  rw [if_pos (by rw [List.length_map]; exact fits hz), lcD_fun2 e]
/-- a draw: both lines -/
theorem line_draw {ss : List Str} {a : Str} {m : Int} {bs : List (Int × Int × Int)} (hs : ∀ s ∈ ss, s.length ≤ 10) (ha : a.length ≤ 10) (hm : 0 ≤ m ∧ m < 1000000000) (hl : bs.length ≤ 6) (ht : ∀ b ∈ bs, okB ss.length b) :
    ∃ ys : List Str, (∀ y ∈ ys, y.length ≤ 40) ∧ ys.length ≤ 20 ∧ m__write_line [.str a, .tuple [.int m, .str "draw", .list (bs.map bd)], .list (ss.map PyData.str)] = some (.str (Txt.join sp1 ys ++ ("\n" : Str))) ∧
      m__law_line [.tuple [.int m, .str "draw", .list (bs.map bd)], .str a, .list (ss.map PyData.str)] = some (.list (ys.map PyData.str)) := by
  obtain ⟨n1, n2, n3⟩ := num_ok hm.1 hm.2
  have kd : eqX (.str ("draw" : Str)) (.str ("draw" : Str)) = some (.bool true) := by rw [eqX_s, decide_eq_true rfl]
  have kl : ("chance" : Str).length ≤ 6 := by decide +kernel
  have kg : getS [("ours", "ours"), ("theirs", "theirs"), ("draw", "chance")] (.str "draw") = some (.str "chance") := rfl
  have c19 : ∀ b ∈ bs, (ct b.1 b.2.1).length ≤ 19 := fun b h => ct_len (ht b h).1.1 (ht b h).1.2 (ht b h).2.1.1 (ht b h).2.1.2
  have n9 : ∀ b ∈ bs, (nm ss b.2.2).length ≤ 10 := fun b h => nm_len hs (ht b h).2.2.1 (ht b h).2.2.2
  have hy2 : ∀ y ∈ a :: num m :: ("chance" : Str) :: bs.flatMap fun b => [ct b.1 b.2.1, nm ss b.2.2], y.length ≤ 40 := fun y hy => by
    simp only [List.mem_cons, List.mem_flatMap, List.not_mem_nil, or_false] at hy
    rcases hy with rfl | rfl | rfl | ⟨t, h, rfl | rfl⟩
    · omega
    · omega
    · omega
    · have := c19 t h; omega
    · have := n9 t h; omega
  have hy1 : ∀ y ∈ a :: num m :: ("chance" : Str) :: bs.map fun b => ct b.1 b.2.1 ++ sp1 ++ nm ss b.2.2, y.length ≤ 40 := fun y hy => by
    simp only [List.mem_cons, List.mem_map] at hy
    rcases hy with rfl | rfl | rfl | ⟨t, h, rfl⟩
    · omega
    · omega
    · omega
    · have := c19 t h; have := n9 t h; rw [app_len, app_len, sp_len]; omega
  have fl : ∀ bs : List (Int × Int × Int), (bs.flatMap fun b => [ct b.1 b.2.1, nm ss b.2.2]).length = bs.length * 2 := fun bs => by
    induction bs with
    | nil => rfl
    | cons b bs ih => rw [List.flatMap_cons, List.length_append, ih]; simp only [List.length_cons, List.length_nil]; omega
  have hc2 : (a :: num m :: ("chance" : Str) :: bs.flatMap fun b => [ct b.1 b.2.1, nm ss b.2.2]).length ≤ 20 := by
    simp only [List.length_cons, fl]; omega
  have hc1 : (a :: num m :: ("chance" : Str) :: bs.map fun b => ct b.1 b.2.1 ++ sp1 ++ nm ss b.2.2).length ≤ 20 := by simp; omega
  have hj := join_s (s := sp1) hy1 hc1 (by rw [sp_len]; exact Nat.le_refl _) (by decide)
  refine ⟨a :: num m :: ("chance" : Str) :: bs.flatMap fun b => [ct b.1 b.2.1, nm ss b.2.2], hy2, hc2, ?_, ?_⟩
  · rw [← join_two]
    unfold m__write_line
    have lc : lcZ (fun x => twoD x (fun v9 v10 => some true) none) (fun x => twoD x (fun v9 v10 => fsO (consJ ((m__write_chance [v9]).bind fmtD) (consJ (some (.str " ")) (consJ ((ixD (.list (ss.map PyData.str)) v10).bind fmtD) some)) Str.empty)) none) (bs.map bd) = some (bs.map fun b => .str (ct b.1 b.2.1 ++ sp1 ++ nm ss b.2.2)) := by
      refine lcZ_fun2 (by omega) fun b hb => ⟨rfl, ?_⟩
      show fsO (consJ ((m__write_chance [.tuple [.int b.1, .int b.2.1]]).bind fmtD) (consJ (some (.str " ")) (consJ ((ixD (.list (ss.map PyData.str)) (.int b.2.2)).bind fmtD) some)) Str.empty) = _
      have q1 := c19 b hb; have q2 := n9 b hb
      rw [write_chance (ht b hb).1.1 (ht b hb).1.2 (ht b hb).2.1.1 (ht b hb).2.1.2, ix_nm (ht b hb).2.2.1 (ht b hb).2.2.2, Option.bind_some, Option.bind_some, fmt_s (by omega), fmt_s (by omega)]
      generalize ct b.1 b.2.1 = u at q1
      generalize nm ss b.2.2 = v at q2
      have c1 : catJ Str.empty (.str u) = some u := by rw [cat_s (by rw [empty_app]; omega), empty_app]
      have c2 : catJ u (.str (" " : Str)) = some (u ++ sp1) := cat_s (by rw [app_len, sp_len]; omega)
      have c3 : catJ (u ++ sp1) (.str v) = some (u ++ sp1 ++ v) := cat_s (by rw [app_len, app_len, sp_len]; omega)
      simp only [fsO, consJ, c1, c2, c3, Option.bind_some]
    have hm2 : (a :: num m :: ("chance" : Str) :: bs.map fun b => ct b.1 b.2.1 ++ sp1 ++ nm ss b.2.2).map PyData.str = [.str a, .str (num m)] ++ ([.str "chance"] ++ bs.map fun b => .str (ct b.1 b.2.1 ++ sp1 ++ nm ss b.2.2)) := by simp [List.map_map, Function.comp_def]
    simp only [Option.bind_some, asU, threeO, toO, Out.bind, op2, kd, asB, ifO, consO, szL_one, newO, iterD, lc, n1, szL_ok (ds := [PyData.str a, .str (num m)]) (show 2 ≤ 1000000 by decide)]
    rw [add_l (by simp; omega)]
    simp only [toO, Out.bind, Option.bind_some]
    rw [add_l (by simp; omega), Option.bind_some, ← hm2, hj.1, Option.bind_some, add_s (by rw [nl_len]; omega)]
    rfl
  · unfold m__law_line
    have i0 : ixD (.tuple [.int m, .str "draw", .list (bs.map bd)]) (.int 0) = some (.int m) := rfl
    have i1 : ixD (.tuple [.int m, .str "draw", .list (bs.map bd)]) (.int 1) = some (.str "draw") := rfl
    have i2 : ixD (.tuple [.int m, .str "draw", .list (bs.map bd)]) (.int 2) = some (.list (bs.map bd)) := rfl
    simp only [Option.bind_some, toO, Out.bind, op2, consO, i0, i1, i2, n1, kg, newO, szL_ok (ds := [PyData.str a, .str (num m), .str "chance"]) (show 3 ≤ 1000000 by decide), iterD, forR]
    rw [for_app (h := bd) (g := fun b => [.str (ct b.1 b.2.1), .str (nm ss b.2.2)]) (c := 2) (fun _ _ => Nat.le_refl _) (by simp; omega) fun b hb acc hz => ?_]
    · simp only [Out.bind, toR, Out.run]
      simp [List.map_flatMap]
    · unfold b__law_line_1
      have j0 : ixD (bd b) (.int 0) = some (.tuple [.int b.1, .int b.2.1]) := rfl
      have j1 : ixD (bd b) (.int 1) = some (.int b.2.2) := rfl
      simp only [op2, Option.bind_some, i1, kd, asB, ifO, j0, j1, ix_nm (ht b hb).2.2.1 (ht b hb).2.2.2, consO, law_chance (ht b hb).1.1 (ht b hb).1.2 (ht b hb).2.1.1 (ht b hb).2.1.2, szL_ok (ds := [PyData.str (ct b.1 b.2.1), .str (nm ss b.2.2)]) (show 2 ≤ 1000000 by decide), newO, add_l (xs := acc) (ys := [PyData.str (ct b.1 b.2.1), .str (nm ss b.2.2)]) hz, toO, Out.bind]
end Lw

set_option maxRecDepth 100000
set_option maxHeartbeats 4000000
set_option linter.all false
namespace Lw
open PySem PySem.Spec PyProof.Rows L2 Dl
/-- a place of a game of N places -/
def Pl (N : Nat) (d : D) : Prop := (∃ (m : Int) (ts : List Int) (k : Str), d = .tuple [.int m, .str k, .list (ts.map PyData.int)] ∧ (k = "ours" ∨ k = "theirs") ∧ (0 ≤ m ∧ m < 1000000000) ∧ ts.length ≤ 6 ∧ ∀ t ∈ ts, 0 ≤ t ∧ t < N) ∨
  ∃ (m : Int) (bs : List (Int × Int × Int)), d = .tuple [.int m, .str "draw", .list (bs.map bd)] ∧ (0 ≤ m ∧ m < 1000000000) ∧ bs.length ≤ 6 ∧ ∀ b ∈ bs, okB N b
theorem line_ok {ss : List Str} {a : Str} {g : D} (hs : ∀ s ∈ ss, s.length ≤ 10) (ha : a.length ≤ 10) (h : Pl ss.length g) :
    ∃ ys : List Str, (∀ y ∈ ys, y.length ≤ 40) ∧ ys.length ≤ 20 ∧ m__write_line [.str a, g, .list (ss.map PyData.str)] = some (.str (Txt.join sp1 ys ++ ("\n" : Str))) ∧
      m__law_line [g, .str a, .list (ss.map PyData.str)] = some (.list (ys.map PyData.str)) := by
  rcases h with ⟨m, ts, k, rfl, hk, hm, hl, ht⟩ | ⟨m, bs, rfl, hm, hl, hb⟩
  · exact line_plain (k2 := k) hs ha hm hk hl ht
  · exact line_draw hs ha hm hl hb
section
variable {ss : List Str} {gs : List D} {n : Nat} (hs : ∀ s ∈ ss, s.length ≤ 10) (hn : n ≤ 24) (l1 : ss.length = n) (l2 : gs.length = n) (hg : ∀ g ∈ gs, Pl n g)
include hs hn l1 l2 hg
/-- the sheet and what is due -/
theorem sheet_ok : ∃ (Y : Nat → List Str) (T : Str), m_write_sheet [.list gs, .list (ss.map PyData.str)] = some (.str T) ∧
    lcZ (fun _ => some true) (fun v7 => Option.bind (consO (op2 ixD (some (.list gs)) (some v7)) (consO (op2 ixD (some (.list (ss.map PyData.str))) (some v7)) (consO (some (.list (ss.map PyData.str))) (some [])))) m__law_line) (rngD 0 n) = some ((List.range n).map fun i => .list ((Y i).map PyData.str)) ∧
    m__law_text [.list ((List.range n).map fun i => .list ((Y i).map PyData.str))] = some (.str T) := by
  have each : ∀ i : Nat, ∃ ys : List Str, i < n → (∀ y ∈ ys, y.length ≤ 40) ∧ ys.length ≤ 20 ∧ m__write_line [.str (ss.getD i Str.empty), gs.getD i .none, .list (ss.map PyData.str)] = some (.str (Txt.join sp1 ys ++ ("\n" : Str))) ∧
      m__law_line [gs.getD i .none, .str (ss.getD i Str.empty), .list (ss.map PyData.str)] = some (.list (ys.map PyData.str)) := fun i => by
    by_cases hi : i < n
    · have g1 : gs.getD i .none = gs[i]'(by omega) := by rw [List.getD_eq_getElem?_getD, List.getElem?_eq_getElem (by omega)]; rfl
      have s1 : ss.getD i Str.empty = ss[i]'(by omega) := by rw [List.getD_eq_getElem?_getD, List.getElem?_eq_getElem (by omega)]; rfl
      obtain ⟨ys, h⟩ := line_ok (ss := ss) (a := ss.getD i Str.empty) (g := gs.getD i .none) hs (by rw [s1]; exact hs _ (List.getElem_mem _)) (by rw [g1, l1]; exact hg _ (List.getElem_mem _))
      exact ⟨ys, fun _ => h⟩
    · exact ⟨[], fun h => absurd h hi⟩
  obtain ⟨Y, hY⟩ := Classical.skolem.mp each
  let L : Nat → Str := fun i => Txt.join sp1 (Y i) ++ ("\n" : Str)
  have lines : ∀ i, i < n → joinD (.str sp1) (.list ((Y i).map PyData.str)) = some (.str (Txt.join sp1 (Y i))) ∧ (Txt.join sp1 (Y i)).length ≤ 820 := fun i hi =>
    join_s (hY i hi).1 (hY i hi).2.1 (by rw [sp_len]; exact Nat.le_refl _) (by decide)
  have ll : ∀ y ∈ (List.range n).map L, y.length ≤ 821 := fun y hy => by
    obtain ⟨i, hi, rfl⟩ := List.mem_map.mp hy
    have := (lines i (List.mem_range.mp hi)).2
    show (Txt.join sp1 (Y i) ++ ("\n" : Str)).length ≤ 821
    rw [app_len, nl_len]; omega
  have all := join_s (s := ("" : Str)) ll (k := 24) (by simp; omega) (by decide +kernel) (by decide)
  rw [List.map_map] at all
  refine ⟨Y, Txt.join "" ((List.range n).map L), ?_, ?_, ?_⟩
  · unfold m_write_sheet
    have z : zipD (ss.map PyData.str) gs = (List.range n).map fun i => .tuple [.str (ss.getD i Str.empty), gs.getD i .none] := by
      refine List.ext_getElem? fun i => ?_
      rw [zipD_get, List.getElem?_map, List.getElem?_map]
      by_cases hi : i < n
      · rw [List.getElem?_range hi, List.getElem?_eq_getElem (show i < ss.length by omega), List.getElem?_eq_getElem (show i < gs.length by omega)]
        show some (PyData.tuple [.str ss[i], gs[i]]) = some (PyData.tuple [.str (ss.getD i Str.empty), gs.getD i .none])
        rw [List.getD_eq_getElem?_getD, List.getD_eq_getElem?_getD, List.getElem?_eq_getElem (show i < ss.length by omega), List.getElem?_eq_getElem (show i < gs.length by omega)]; rfl
      · rw [List.getElem?_eq_none (show ss.length ≤ i by omega), List.getElem?_eq_none (show (List.range n).length ≤ i by rw [List.length_range]; omega)]; rfl
    have e : lcZ (fun x => twoD x (fun v3 v4 => some true) none) (fun x => twoD x (fun v3 v4 => Option.bind (consO (some v3) (consO (some v4) (consO (some (.list (ss.map PyData.str))) (some [])))) m__write_line) none) ((List.range n).map fun i => .tuple [.str (ss.getD i Str.empty), gs.getD i .none]) = some ((List.range n).map fun i => .str (L i)) := by
      refine lcZ_fun2 (by rw [List.length_range]; omega) fun i hi => ⟨rfl, ?_⟩
      exact (hY i (List.mem_range.mp hi)).2.2.1
    simp only [consO, Option.bind_some] at e
    simp only [consO, Option.bind_some, zip2D, z, e, newO, op2]
    rw [show ((List.range n).map fun i => PyData.str (L i)) = (List.range n).map (PyData.str ∘ L) from rfl, all.1]
    rfl
  · have r : rngD 0 n = (List.range n).map fun (k : Nat) => PyData.int (0 + k) := rfl
    rw [r]
    refine lcZ_fun2 (by rw [List.length_range]; omega) fun i hi => ⟨rfl, ?_⟩
    have hi := List.mem_range.mp hi
    have x1 : ixD (.list gs) (.int (0 + (i : Int))) = some (gs.getD i .none) := by
      show atI gs _ = _
      unfold atI
      rw [ixN_in (by omega) (by omega), List.getD_eq_getElem?_getD, show (0 + (i : Int)).toNat = i by omega]
      show gs[i]? = _
      rw [List.getElem?_eq_getElem (show i < gs.length by omega)]; rfl
    have x2 : ixD (.list (ss.map PyData.str)) (.int (0 + (i : Int))) = some (.str (ss.getD i Str.empty)) := by
      rw [ix_nm (by omega) (by omega)]
      unfold nm
      rw [show (0 + (i : Int)).toNat = i by omega]
    simp only [op2, Option.bind_some, x1, x2, consO]
    exact (hY i hi).2.2.2
  · unfold m__law_text
    have e : lcZ (fun _ => some true) (fun v2 => op2 addD (op2 joinD (some (.str " ")) (some v2)) (some (.str "\n"))) ((List.range n).map fun i => .list ((Y i).map PyData.str)) = some ((List.range n).map fun i => .str (L i)) := by
      refine lcZ_fun2 (by rw [List.length_range]; omega) fun i hi => ⟨rfl, ?_⟩
      have q := lines i (List.mem_range.mp hi)
      have q1 : joinD (.str (" " : Str)) (.list ((Y i).map PyData.str)) = some (.str (Txt.join sp1 (Y i))) := q.1
      simp only [op2, Option.bind_some, q1]
      exact add_s (by rw [nl_len]; omega)
    simp only [op2, Option.bind_some] at e
    simp only [Option.bind_some, iterD, e, newO, op2]
    rw [show ((List.range n).map fun i => PyData.str (L i)) = (List.range n).map (PyData.str ∘ L) from rfl, all.1]
    rfl
end
end Lw

set_option maxRecDepth 100000
set_option maxHeartbeats 4000000
set_option linter.all false
namespace Lw
open PySem PySem.Spec PyProof.Rows L2 Dl
def OutOk {α β : Type} (o : Out α β) (P : α → Prop) : Prop := ∃ a, o = .nx a ∧ P a
theorem out_bind {α β γ : Type} {r : Option α} {k : α → Out γ β} {P : α → Prop} {Q : γ → Prop} (h : Ok r P) (g : ∀ a, P a → OutOk (k a) Q) : OutOk (Out.bind (toO r) k) Q := by
  obtain ⟨a, e, p⟩ := h; subst e; exact g a p
theorem out_seq {α β γ : Type} {o : Out α β} {k : α → Out γ β} {P : α → Prop} {Q : γ → Prop} (h : OutOk o P) (g : ∀ a, P a → OutOk (k a) Q) : OutOk (Out.bind o k) Q := by
  obtain ⟨a, e, p⟩ := h; subst e; exact g a p
theorem three_ok {ra rb rc : Option D} {P Q R : D → Prop} (h : Ok ra P) (k : Ok rb Q) (l : Ok rc R) : Ok (threeO (consO ra (consO rb (consO rc (some []))))) fun p => P p.1 ∧ Q p.2.1 ∧ R p.2.2 := by
  obtain ⟨a, e, p⟩ := h; obtain ⟨b, e2, q⟩ := k; obtain ⟨c, e3, r⟩ := l; subst e; subst e2; subst e3; exact ⟨(a, b, c), rfl, p, q, r⟩
theorem lcD_all {P Q : D → Prop} {f : D → Option D} (h : ∀ x, P x → Ok (f x) Q) : ∀ ds : List D, (∀ d ∈ ds, P d) → Ok (lcD (fun _ => some true) f ds) (fun es => es.length = ds.length ∧ ∀ d ∈ es, Q d)
  | [], _ => ⟨[], rfl, rfl, fun _ h => by cases h⟩
  | x :: xs, hp => by
    obtain ⟨y, e, q⟩ := h x (hp x (by simp))
    obtain ⟨ys, e2, l, q2⟩ := lcD_all h xs fun d hd => hp d (by simp [hd])
    refine ⟨y :: ys, ?_, by simp [l], fun d hd => ?_⟩
    · unfold lcD; rw [e, e2]; rfl
    · rcases List.mem_cons.mp hd with rfl | hd
      · exact q
      · exact q2 d hd
theorem lc_all {P Q : D → Prop} {f : D → Option D} {n : Nat} {ds : List D} (hp : AllOf P n ds) (hn : n ≤ 1000000) (h : ∀ x, P x → Ok (f x) Q) : Ok (newO (lcZ (fun _ => some true) f ds)) (fun d => ∃ zs, d = .list zs ∧ AllOf Q n zs) := by
  obtain ⟨es, e2, l2, q⟩ := lcD_all h ds hp.2
  have e : lcZ (fun _ => some true) f ds = some es := by
    unfold lcZ
    rw [if_pos (fits (by rw [hp.1]; exact hn)), e2]
  rw [e]
  exact ⟨_, rfl, es, rfl, l2.trans hp.1, q⟩
theorem lc_rng {b : Nat} {f : D → Option D} {Q : D → Prop} (hb : b ≤ 1000000) (h : ∀ j : Nat, j < b → Ok (f (.int (0 + j))) Q) : Ok (newO (Option.bind (Option.bind (consO (some (.int b)) (some [])) rng1D) (lcZ (fun _ => some true) f))) (fun d => ∃ zs, d = .list zs ∧ AllOf Q b zs) := by
  show Ok (newO (Option.bind (rng1D [.int b]) _)) _
  rw [rng1D_is hb]
  exact lc_all (P := fun d => ∃ j : Nat, j < b ∧ d = .int (0 + j)) ⟨rngD_len, fun d hd => by
    obtain ⟨k, hk⟩ := List.mem_iff_getElem?.mp hd
    obtain ⟨hl, e⟩ := rngD_get hk
    exact ⟨k, hl, e⟩⟩ hb fun x ⟨j, hj, e⟩ => by subst e; exact h j hj
theorem as_map {α : Type} {f : α → D} {R : α → Prop} : ∀ {zs : List D}, (∀ d ∈ zs, ∃ a, d = f a ∧ R a) → ∃ as : List α, zs = as.map f ∧ ∀ a ∈ as, R a
  | [], _ => ⟨[], rfl, fun _ h => by cases h⟩
  | z :: zs, h => by
    obtain ⟨a, e, r⟩ := h z (by simp)
    obtain ⟨as, e2, r2⟩ := as_map (zs := zs) fun d hd => h d (by simp [hd])
    refine ⟨a :: as, by rw [e, e2]; rfl, fun x hx => ?_⟩
    rcases List.mem_cons.mp hx with rfl | hx
    · exact r
    · exact r2 x hx
theorem ints_map : ∀ ns : List Int, intsD (ns.map PyData.int) = some ns
  | [] => rfl
  | n :: ns => by
    show (intsD (ns.map PyData.int)).map (n :: ·) = _
    rw [ints_map ns]; rfl
theorem sum_bd : ∀ {ns : List Int}, (∀ i ∈ ns, 1 ≤ i ∧ i ≤ 90) → (ns.length : Int) ≤ ns.sum ∧ ns.sum ≤ 90 * ns.length
  | [], _ => ⟨Int.le_refl _, Int.le_refl _⟩
  | n :: ns, h => by
    have a := sum_bd (ns := ns) fun i hi => h i (by simp [hi])
    have b := h n (by simp)
    rw [List.sum_cons, List.length_cons]
    omega
theorem cut14 {xs : List D} (hx : AllOf (IntIn 0 999) 342 xs) {k : Nat} (hk : k < 24) : AllOf (IntIn 0 999) 14 (Dl.cutD xs (some (1 + 14 * (0 + (k : Int)))) (some (15 + 14 * (0 + (k : Int))))) := by
  rw [show (1 + 14 * (0 + (k : Int))) = ((1 + 14 * k : Nat) : Int) by omega, show (15 + 14 * (0 + (k : Int))) = ((15 + 14 * k : Nat) : Int) by omega]
  unfold Dl.cutD
  rw [HT.sIx_nat, HT.sIx_nat, hx.1, Nat.min_eq_left (by omega), Nat.min_eq_left (by omega)]
  refine ⟨?_, fun d hd => hx.2 d (List.mem_of_mem_drop (List.mem_of_mem_take hd))⟩
  rw [List.length_take, List.length_drop, hx.1]; omega
def Two (d : D) : Prop := ∃ p q : Int, d = .tuple [.int p, .int q] ∧ (0 ≤ p ∧ p < 1000000000) ∧ 0 ≤ q ∧ q < 1000000000
theorem wide_turn {xs : List D} (hx : AllOf (IntIn 0 999) 342 xs) {n k : Nat} (hn : 1 ≤ n ∧ n ≤ 24) (hk : k < 24) {acc : List D} (ha : acc.length = k ∧ ∀ g ∈ acc, Pl n g) : OutOk (b__law_wide_1 (.list xs) (.int n) acc (.int (0 + k))) (fun a => a.length = k + 1 ∧ ∀ g ∈ a, Pl n g) := by
  have app : ∀ {r : Option D}, Ok r (Pl n) → Ok (Option.bind r (addL acc)) (fun a => a.length = k + 1 ∧ ∀ g ∈ a, Pl n g) := fun h => by
    obtain ⟨g, e, p⟩ := h
    rw [e]
    refine ⟨acc ++ [g], addL_ok (by omega), by rw [List.length_append, ha.1]; rfl, fun x hx => ?_⟩
    rcases List.mem_append.mp hx with z | z
    · exact ha.2 x z
    · simp at z; subst z; exact p
  unfold b__law_wide_1
  refine out_bind (P := fun d => ∃ ps, d = .list ps ∧ AllOf (IntIn 0 999) 14 ps) ?_ fun v8 h8 => ?_
  · have m : mulX (.int 14) (.int (0 + (k : Int))) = some (.int (14 * (0 + (k : Int)))) := rfl
    simp only [op2, Option.bind_some, m, add_ok, partD, slO, slD]
    exact ⟨_, rfl, _, rfl, cut14 hx hk⟩
  obtain ⟨ps, rfl, h8⟩ := h8
  have at8 : ∀ j : Int, 0 ≤ j → j < 14 → Ok (Option.bind (consO (op2 ixD (some (.list ps)) (some (.int j))) (some [])) intTD) (IntIn 0 999) := fun j a b =>
    ok_one (show Ok (ixD (.list ps) (.int j)) (IntIn 0 999) from ix_in h8 (in_int j (show 0 ≤ j ∧ j ≤ 13 by omega)) (by decide)) fun x h => int_in h
  have md : ∀ (j : Int) (m : Int), 0 ≤ j → j < 14 → 0 < m → Ok (op2 modD (Option.bind (consO (op2 ixD (some (.list ps)) (some (.int j))) (some [])) intTD) (some (.int m))) (IntIn 0 (m - 1)) := fun j m a b c =>
    ok_op2 (at8 j a b) (ok_some (in_int m ⟨Int.le_refl m, Int.le_refl m⟩)) fun x y h1 h2 => mod_in h1 h2 c
  have one : Ok (some (PyData.int 1)) (IntIn 1 1) := ok_some (in_int 1 ⟨Int.le_refl _, Int.le_refl _⟩)
  refine out_bind (P := fun p : D × D × D => IntIn 0 9 p.1 ∧ IntIn 0 3 p.2.1 ∧ IntIn 1 6 p.2.2) (three_ok (md 0 10 (by decide) (by decide) (by decide)) (md 1 4 (by decide) (by decide) (by decide)) (ok_op2 one (md 2 6 (by decide) (by decide) (by decide)) fun x y a b => add_in a b)) fun ⟨v9, v10, v11⟩ ⟨h9, h10, h11⟩ => ?_
  obtain ⟨m, rfl, m0, m1⟩ := (show IntIn 0 9 v9 from h9)
  obtain ⟨i, rfl, i0, i1⟩ := (show IntIn 0 3 v10 from h10)
  obtain ⟨bi, rfl, b0, b1⟩ := (show IntIn 1 6 v11 from h11)
  obtain ⟨b, rfl⟩ : ∃ b : Nat, bi = b := ⟨bi.toNat, by omega⟩
  refine out_bind (P := fun d => ∃ zs, d = .list zs ∧ AllOf (IntIn 0 ((n : Int) - 1)) b zs) (lc_rng (by omega) fun j hj => md (3 + (0 + (j : Int))) n (by omega) (by omega) (by omega)) fun v12 h12 => ?_
  obtain ⟨zs, rfl, hz⟩ := h12
  have cond : Option.bind (op2 ltD (some (.int i)) (some (.int 2))) asB = some (decide (i < 2)) := rfl
  refine out_seq (P := fun a : List D => a.length = k + 1 ∧ ∀ g ∈ a, Pl n g) ?_ fun a h => ⟨a, rfl, h⟩
  rw [cond]
  by_cases hi : i < 2
  · rw [decide_eq_true hi]
    refine out_bind (P := fun d => ∃ ws, d = .list ws ∧ AllOf (IntIn 1 90) b ws) (lc_rng (by omega) fun j hj => ok_op2 one (md (8 + (0 + (j : Int))) 90 (by omega) (by omega) (by decide)) fun x y a b => add_in a b) fun v15 h15 => ?_
    obtain ⟨ws, rfl, hw⟩ := h15
    obtain ⟨ns, rfl, hns⟩ := as_map (f := PyData.int) (R := fun i => 1 ≤ i ∧ i ≤ 90) (zs := ws) fun d hd => by
      obtain ⟨i, e, a, b⟩ := hw.2 d hd; exact ⟨i, e, a, b⟩
    have hl : ns.length = b := by have := hw.1; rw [List.length_map] at this; exact this
    have sb := sum_bd hns
    refine out_bind (P := fun d => ∃ zs, d = .list zs ∧ AllOf Two b zs) (r := newO (lcZ (fun _ => some true) (fun v18 => Option.bind (consO (some v18) (consO (Option.bind (consO (some (.list (ns.map PyData.int))) (some [])) sumD) (some []))) m__law_lowest) (ns.map PyData.int))) (lc_all (P := IntIn 1 90) hw (by omega) fun x hx1 => ?_) fun v17 h17 => ?_
    · obtain ⟨w, rfl, w0, w1⟩ := hx1
      have es : Option.bind (consO (some (.list (ns.map PyData.int))) (some [])) sumD = some (.int ns.sum) := by
        show (intsD (ns.map PyData.int)).map _ = _
        rw [ints_map]; rfl
      rw [es]
      have e := lowest_ok w.toNat ns.sum.toNat (by omega) (by omega) (by omega)
      rw [show ((w.toNat : Nat) : Int) = w by omega, show ((ns.sum.toNat : Nat) : Int) = ns.sum by omega] at e
      have a1 := Nat.div_le_self w.toNat (Nat.gcd w.toNat ns.sum.toNat)
      have a2 := Nat.div_le_self ns.sum.toNat (Nat.gcd w.toNat ns.sum.toNat)
      generalize w.toNat / Nat.gcd w.toNat ns.sum.toNat = p at e a1
      generalize ns.sum.toNat / Nat.gcd w.toNat ns.sum.toNat = q at e a2
      exact ⟨_, e, _, _, rfl, ⟨by omega, by omega⟩, by omega, by omega⟩
    obtain ⟨cs, rfl, hc⟩ := h17
    refine out_bind (P := fun a : List D => a.length = k + 1 ∧ ∀ g ∈ a, Pl n g) (app ?_) fun a h => ⟨a, rfl, h⟩
    have lst := lc_rng (b := b) (f := fun v19 => Option.bind (consO (op2 ixD (some (.list cs)) (some v19)) (consO (op2 ixD (some (.list zs)) (some v19)) (some []))) tupD) (Q := fun d => ∃ q, d = bd q ∧ okB n q) (by omega) fun j hj => by
      obtain ⟨c, ec, p, q, rfl, hp, hq⟩ := (show Ok (ixD (.list cs) (.int (0 + (j : Int)))) Two from ix_in hc (in_int _ (show 0 ≤ (0 + (j : Int)) ∧ (0 + (j : Int)) ≤ (b : Int) - 1 by omega)) (by omega))
      obtain ⟨z, ez, t, rfl, ht⟩ := (show Ok (ixD (.list zs) (.int (0 + (j : Int)))) (IntIn 0 ((n : Int) - 1)) from ix_in hz (in_int _ (show 0 ≤ (0 + (j : Int)) ∧ (0 + (j : Int)) ≤ (b : Int) - 1 by omega)) (by omega))
      simp only [op2, Option.bind_some, ec, ez, consO, tupD_two]
      exact ⟨_, rfl, (p, q, t), rfl, hp, hq, ht.1, by show t < (n : Int); omega⟩
    obtain ⟨d, ed, bl, rfl, hb⟩ := lst
    obtain ⟨bs, rfl, hbs⟩ := as_map (f := bd) (R := okB n) hb.2
    rw [ed]
    have hbl : bs.length = b := by have := hb.1; rw [List.length_map] at this; exact this
    exact ⟨_, tupD_three, .inr ⟨m, bs, rfl, ⟨m0, by omega⟩, by omega, hbs⟩⟩
  · rw [decide_eq_false hi]
    refine out_bind (P := fun a : List D => a.length = k + 1 ∧ ∀ g ∈ a, Pl n g) (app ?_) fun a h => ⟨a, rfl, h⟩
    obtain ⟨ts, rfl, hts⟩ := as_map (f := PyData.int) (R := fun t => 0 ≤ t ∧ t < (n : Int)) (zs := zs) fun d hd => by
      obtain ⟨t, e, a, b⟩ := hz.2 d hd; exact ⟨t, e, a, by omega⟩
    have htl : ts.length = b := by have := hz.1; rw [List.length_map] at this; exact this
    have kind : ∃ kk : Str, op2 ixD (newO (Option.bind (consO (some (.str "ours")) (consO (some (.str "theirs")) (some []))) szL)) (op2 subD (some (.int i)) (some (.int 2))) = some (.str kk) ∧ (kk = "ours" ∨ kk = "theirs") := by
      have e2 : szL [PyData.str "ours", .str "theirs"] = some [.str "ours", .str "theirs"] := szL_ok (show 2 ≤ 1000000 by decide)
      simp only [consO, Option.bind_some, e2, newO, op2, sub_ok]
      have : i = 2 ∨ i = 3 := by omega
      rcases this with rfl | rfl
      · exact ⟨"ours", rfl, .inl rfl⟩
      · exact ⟨"theirs", rfl, .inr rfl⟩
    obtain ⟨kk, ek, hkk⟩ := kind
    rw [ek]
    exact ⟨_, tupD_three, .inl ⟨m, ts, kk, rfl, hkk, ⟨m0, by omega⟩, by omega, hts⟩⟩
theorem wide_ok {xs : List D} (hx : AllOf (IntIn 0 999) 342 xs) : ∃ (n : Nat) (gs : List D), m__law_wide [.list xs, .int 24] = some (.list gs) ∧ n ≤ 24 ∧ gs.length = n ∧ ∀ g ∈ gs, Pl n g := by
  obtain ⟨d0, e0, i, rfl, i0, i1⟩ := (show Ok (ixD (.list xs) (.int 0)) (IntIn 0 999) from ix_in hx (in_int 0 (show (0 : Int) ≤ 0 ∧ (0 : Int) ≤ 0 by decide)) (by decide))
  have hm := Int.emod_nonneg i (show (24 : Int) ≠ 0 by decide)
  have hm2 := Int.emod_lt_of_pos i (show (0 : Int) < 24 by decide)
  obtain ⟨n, hn⟩ : ∃ n : Nat, 1 + i % 24 = n := ⟨(1 + i % 24).toNat, by omega⟩
  unfold m__law_wide
  simp only [op2, Option.bind_some, e0, consO, intTD, mod_ok (show (0 : Int) < 24 by decide), add_ok, hn, toO, Out.bind, szL_nil, rng1D_is (n := n) (by omega), forR]
  obtain ⟨b, hb, ib⟩ := forO_inv (β := Unit) (body := b__law_wide_1 (.list xs) (.int n)) (I := fun k a => a.length = k ∧ ∀ g ∈ a, Pl n g) (xs := rngD 0 n) (k := 0) (a := []) ⟨rfl, fun _ h => by cases h⟩ fun i a x hx' hi => by
    obtain ⟨hl, rfl⟩ := rngD_get hx'
    rw [Nat.zero_add] at hi ⊢
    obtain ⟨b, hb, ib⟩ := wide_turn hx (n := n) (k := i) (by omega) (by omega) hi
    exact ⟨b, .inl hb, ib⟩
  rw [rngD_len, Nat.zero_add] at ib
  rw [hb]
  exact ⟨n, b, rfl, by omega, ib.1, ib.2⟩
end Lw

set_option maxRecDepth 100000
set_option maxHeartbeats 4000000
set_option linter.all false
namespace Lw
open PySem PySem.Spec PyProof.Rows L2 Dl
/-- a short name of plain signs -/
def Nm (s : Str) : Prop := s.length ≤ 10 ∧ ∀ c ∈ s.cps.toList, c < 16 ^ 8
theorem nm_of {s : Str} (h : (decide (s.length ≤ 10) && s.cps.toList.all fun c => decide (c < 16 ^ 8)) = true) : Nm s := by
  simp only [Bool.and_eq_true, decide_eq_true_eq, List.all_eq_true] at h
  exact h
theorem letters26 : ∀ j : Nat, j < 26 → ∃ s : Str, ixD (.str "abcdefghijklmnopqrstuvwxyz") (.int j) = some (.str s) ∧ Nm s := by
  intro j hj
  have key : (List.range 26).all (fun j => match ixD (.str "abcdefghijklmnopqrstuvwxyz") (.int (j : Int)) with | some (.str s) => decide (s.length ≤ 10) && s.cps.toList.all (fun c => decide (c < 16 ^ 8)) | _ => false) = true := by decide +kernel
  have h := List.all_eq_true.mp key j (List.mem_range.mpr hj)
  split at h
  · rename_i s e; exact ⟨s, e, nm_of h⟩
  · cases h
def six : List Str := ["a", "ours", "gate", "x9y", "chances", "theirs0"]
theorem word_num : ∀ j : Nat, j < 6 → ∀ i : Nat, i < 106 → Nm (six.getD j Str.empty ++ num (i : Int)) := by
  intro j hj i hi
  have key : (List.range 6).all (fun j => (List.range 106).all fun i => decide ((six.getD j Str.empty ++ num (i : Int)).length ≤ 10) && (six.getD j Str.empty ++ num (i : Int)).cps.toList.all fun c => decide (c < 16 ^ 8)) = true := by decide +kernel
  have h := List.all_eq_true.mp (List.all_eq_true.mp key j (List.mem_range.mpr hj)) i (List.mem_range.mpr hi)
  exact nm_of h
theorem names_ok {p q : Int} (hp : 0 ≤ p ∧ p ≤ 999) (hq : 0 ≤ q ∧ q ≤ 999) {n : Nat} (hn : n ≤ 24) : ∃ ss : List Str, m__law_names [.int p, .int q, .int n] = some (.list (ss.map PyData.str)) ∧ ss.length = n ∧ ∀ s ∈ ss, Nm s := by
  have fin : ∀ {r : Option D}, Ok r (fun d => ∃ zs, d = .list zs ∧ AllOf (fun d => ∃ s, d = .str s ∧ Nm s) n zs) → ∃ ss : List Str, r = some (.list (ss.map PyData.str)) ∧ ss.length = n ∧ ∀ s ∈ ss, Nm s := fun h => by
    obtain ⟨d, e, zs, rfl, hz⟩ := h
    obtain ⟨ss, rfl, hs⟩ := as_map (f := PyData.str) (R := Nm) hz.2
    exact ⟨ss, e, by have := hz.1; rw [List.length_map] at this; exact this, hs⟩
  unfold m__law_names
  simp only [toO, Out.bind]
  have c : Option.bind (op2 eqX (op2 modD (Option.bind (consO (some (.int p)) (some [])) intTD) (some (.int 3))) (some (.int 0))) asB = some (decide (p % 3 = 0)) := by
    have : modD (.int p) (.int 3) = some (.int (p % 3)) := mod_ok (by decide)
    simp only [op2, Option.bind_some, consO, intTD, this, eqX_i, asB]
  rw [c]
  by_cases h3 : p % 3 = 0
  · rw [decide_eq_true h3]
    obtain ⟨ss, e, h⟩ := fin (lc_rng (b := n) (f := fun v5 => op2 ixD (some (.str "abcdefghijklmnopqrstuvwxyz")) (op2 modD (Option.bind (consO (op2 addD (some (.int q)) (op2 mulX (some (.int 5)) (some v5))) (some [])) intTD) (some (.int 26)))) (Q := fun d => ∃ s, d = .str s ∧ Nm s) (by omega) fun j hj => by
      have m : mulX (.int 5) (.int (0 + (j : Int))) = some (.int (5 * (0 + (j : Int)))) := rfl
      simp only [op2, Option.bind_some, m, add_ok, consO, intTD, mod_ok (show (0 : Int) < 26 by decide)]
      have a := Int.emod_nonneg (q + 5 * (0 + (j : Int))) (show (26 : Int) ≠ 0 by decide)
      have b := Int.emod_lt_of_pos (q + 5 * (0 + (j : Int))) (show (0 : Int) < 26 by decide)
      generalize (q + 5 * (0 + (j : Int))) % 26 = t at a b
      obtain ⟨s, e, hs⟩ := letters26 t.toNat (by omega)
      rw [show ((t.toNat : Nat) : Int) = t by omega] at e
      exact ⟨_, e, s, rfl, hs⟩)
    refine ⟨ss, ?_, h⟩
    simp only [ifO, Out.bind, e, toR, Out.run]
  · rw [decide_eq_false h3]
    have s6 : szL [PyData.str "a", .str "ours", .str "gate", .str "x9y", .str "chances", .str "theirs0"] = some (six.map PyData.str) := szL_ok (show 6 ≤ 1000000 by decide)
    have f3 : fdivD (.int p) (.int 3) = some (.int (p / 3)) := fdiv_ok (by decide)
    have a := Int.emod_nonneg (p / 3) (show (6 : Int) ≠ 0 by decide)
    have b := Int.emod_lt_of_pos (p / 3) (show (0 : Int) < 6 by decide)
    have ix : ixD (.list (six.map PyData.str)) (.int (p / 3 % 6)) = some (.str (six.getD (p / 3 % 6).toNat Str.empty)) := ix_nm (ss := six) a (show p / 3 % 6 < 6 from b)
    simp only [ifO, Out.bind, op2, consO, Option.bind_some, s6, newO, f3, intTD, mod_ok (show (0 : Int) < 6 by decide), ix, toO]
    generalize p / 3 % 6 = t at a b
    obtain ⟨ss, e, h⟩ := fin (lc_rng (b := n) (f := fun v8 => op2 addD (some (.str (six.getD t.toNat Str.empty))) (Option.bind (consO (op2 addD (op2 addD (some (.int 10)) (op2 modD (Option.bind (consO (some (.int q)) (some [])) intTD) (some (.int 50)))) (op2 mulX (some (.int 2)) (some v8))) (some [])) strTD)) (Q := fun d => ∃ s, d = .str s ∧ Nm s) (by omega) fun j hj => by
      have m : mulX (.int 2) (.int (0 + (j : Int))) = some (.int (2 * (0 + (j : Int)))) := rfl
      have a1 := Int.emod_nonneg q (show (50 : Int) ≠ 0 by decide)
      have b1 := Int.emod_lt_of_pos q (show (0 : Int) < 50 by decide)
      simp only [op2, Option.bind_some, m, add_ok, consO, intTD, mod_ok (show (0 : Int) < 50 by decide)]
      generalize q % 50 = u at a1 b1
      obtain ⟨x1, _, _⟩ := num_ok (i := 10 + u + 2 * (0 + (j : Int))) (by omega) (by omega)
      have w := word_num t.toNat (by omega) (10 + u + 2 * (0 + (j : Int))).toNat (by omega)
      rw [show (((10 + u + 2 * (0 + (j : Int))).toNat : Nat) : Int) = 10 + u + 2 * (0 + (j : Int)) by omega] at w
      rw [x1]
      have wl := w.1
      rw [app_len] at wl
      exact ⟨_, add_s (by omega), _, rfl, w⟩)
    refine ⟨ss, ?_, h⟩
    simp only [op2, consO, Option.bind_some, newO, intTD] at e
    simp only [e, toR, Out.run]
theorem sh_pl {n : Nat} (hn : n ≤ 24) {g : D} (h : Pl n g) : Sh 129 4 g := by
  rcases h with ⟨m, ts, k, rfl, hk, hm, hl, ht⟩ | ⟨m, bs, rfl, hm, hl, hb⟩
  · refine (sh_tup (w := 6) (p := 1) (n := 3) (fun d hd => ?_) (by exact Nat.le_refl 3)).mono (by decide) (by decide)
    simp only [List.mem_cons, List.not_mem_nil, or_false] at hd
    rcases hd with rfl | rfl | rfl
    · exact (sh_int hm.1 hm.2).mono (by decide) (by decide)
    · have : Sh 6 0 (.str k) := by
        rcases hk with rfl | rfl
        · exact sh_str (by decide +kernel) (fun c hc => of_decide_eq_true (List.all_eq_true.mp (show (("ours" : Str).cps.toList.all fun c => decide (c < 16 ^ 8)) = true by decide +kernel) c hc))
        · exact sh_str (by decide +kernel) (fun c hc => of_decide_eq_true (List.all_eq_true.mp (show (("theirs" : Str).cps.toList.all fun c => decide (c < 16 ^ 8)) = true by decide +kernel) c hc))
      exact this.mono (by decide) (by decide)
    · refine (sh_list (w := 0) (p := 0) (n := 6) (fun d hd => ?_) (by rw [List.length_map]; exact hl)).mono (by decide) (by decide)
      obtain ⟨t, h, rfl⟩ := List.mem_map.mp hd
      exact sh_int (ht t h).1 (by have := (ht t h).2; omega)
  · refine (sh_tup (w := 42) (p := 3) (n := 3) (fun d hd => ?_) (by exact Nat.le_refl 3)).mono (by decide) (by decide)
    simp only [List.mem_cons, List.not_mem_nil, or_false] at hd
    rcases hd with rfl | rfl | rfl
    · exact (sh_int hm.1 hm.2).mono (by decide) (by decide)
    · exact (sh_str (n := 4) (by decide +kernel) (fun c hc => of_decide_eq_true (List.all_eq_true.mp (show (("draw" : Str).cps.toList.all fun c => decide (c < 16 ^ 8)) = true by decide +kernel) c hc))).mono (by decide) (by decide)
    · refine (sh_list (w := 6) (p := 2) (n := 6) (fun d hd => ?_) (by rw [List.length_map]; exact hl)).mono (by decide) (by decide)
      obtain ⟨b, h, rfl⟩ := List.mem_map.mp hd
      obtain ⟨h1, h2, h3⟩ := hb b h
      refine (sh_tup (w := 2) (p := 1) (n := 2) (fun d hd => ?_) (by exact Nat.le_refl 2)).mono (by decide) (by decide)
      simp only [List.mem_cons, List.not_mem_nil, or_false] at hd
      rcases hd with rfl | rfl
      · refine (sh_tup (w := 0) (p := 0) (n := 2) (fun d hd => ?_) (by exact Nat.le_refl 2)).mono (by decide) (by decide)
        simp only [List.mem_cons, List.not_mem_nil, or_false] at hd
        rcases hd with rfl | rfl
        · exact sh_int h1.1 h1.2
        · exact sh_int h2.1 h2.2
      · exact (sh_int h3.1 (by have := h3.2; omega)).mono (by decide) (by decide)
theorem law_true (ns : List Int) (hns : ns.length ≤ 63) : m_law ns [] = some (.bool true) := by
  obtain ⟨ds, e1, l1, p1⟩ := draws_ok ns hns 342 (by decide)
  have hx : AllOf (IntIn 0 999) 342 (dInts ds) := ⟨by rw [dInts_len, l1], fun d hd => by
    obtain ⟨v, hv, rfl⟩ := List.mem_map.mp hd
    exact ⟨v, rfl, (p1 v hv).1, by have := (p1 v hv).2; omega⟩⟩
  obtain ⟨n, gs, e2, hn, lg, hg⟩ := wide_ok hx
  obtain ⟨d3, x3, a, rfl, a0, a1⟩ := (show Ok (ixD (.list (dInts ds)) (.int 340)) (IntIn 0 999) from ix_in hx (in_int 340 (show (0 : Int) ≤ 340 ∧ (340 : Int) ≤ 340 by decide)) (by decide))
  obtain ⟨d4, x4, b, rfl, b0, b1⟩ := (show Ok (ixD (.list (dInts ds)) (.int 341)) (IntIn 0 999) from ix_in hx (in_int 341 (show (0 : Int) ≤ 341 ∧ (341 : Int) ≤ 341 by decide)) (by decide))
  obtain ⟨ss, e3, ls, hs⟩ := names_ok (p := a) (q := b) ⟨a0, a1⟩ ⟨b0, b1⟩ hn
  obtain ⟨Y, T, t1, t2, t3⟩ := sheet_ok (ss := ss) (gs := gs) (n := n) (fun s h => (hs s h).1) hn ls lg hg
  have sh : Sh 6242 6 (.tuple [.list gs, .list (ss.map PyData.str)]) := by
    refine (sh_tup (w := 3120) (p := 5) (n := 2) (fun d hd => ?_) (by exact Nat.le_refl 2)).mono (by decide) (by decide)
    simp only [List.mem_cons, List.not_mem_nil, or_false] at hd
    rcases hd with rfl | rfl
    · exact (sh_list (w := 129) (p := 4) (n := 24) (fun g h => sh_pl hn (hg g h)) (by omega)).mono (by decide) (by decide)
    · refine (sh_list (w := 10) (p := 0) (n := 24) (fun d h => ?_) (by rw [List.length_map]; omega)).mono (by decide) (by decide)
      obtain ⟨s, h2, rfl⟩ := List.mem_map.mp h
      exact sh_str (hs s h2).1 (hs s h2).2
  have rp := repr_ok sh rfl (by decide) (by decide)
  have e0 : m__law_draws ns [.int 342] = some (.list (dInts ds)) := e1
  have lenG : lenD [.list gs] = some (.int n) := by show some (PyData.int gs.length) = _; rw [lg]
  unfold m_law
  simp only [consO, Option.bind_some, op2] at t2
  simp only [consO, Option.bind_some, e0, toO, Out.bind, e2, op2, x3, x4, lenG, e3, tupD_two, rp, t1, rng1D_is (n := n) (by omega), t2, newO, t3, andV, isO, eqX_s, asB, decide_true]
  rfl
end Lw

set_option maxRecDepth 100000
set_option maxHeartbeats 4000000
namespace Lw
open PySem PySem.Spec PyProof.Rows L2 Dl
theorem all_mk {l : PySem.W.OpenLaw} {w : World} {K : PySem.W.Frag} {h : Heap} {mg : Str → Option Value} {fa : Addr} (X : K.In h) (G : h.Ns mainGlobals mg) (hfa : mg "law" = some (.ref fa))
    {f__write_chance : Addr} {od__write_chance an__write_chance : Option Addr} {sl__write_chance : Array (Option Value)} {oc__write_chance kV__write_chance dc__write_chance pm__write_chance cd__write_chance ct__write_chance : Value}
    {f__write_line : Addr} {od__write_line an__write_line : Option Addr} {sl__write_line : Array (Option Value)} {oc__write_line kV__write_line dc__write_line pm__write_line cd__write_line ct__write_line : Value}
    {f_write_sheet : Addr} {od_write_sheet an_write_sheet : Option Addr} {sl_write_sheet : Array (Option Value)} {oc_write_sheet kV_write_sheet dc_write_sheet pm_write_sheet cd_write_sheet ct_write_sheet : Value}
    {f__law_draws : Addr} {od__law_draws an__law_draws : Option Addr} {sl__law_draws : Array (Option Value)} {oc__law_draws kV__law_draws dc__law_draws pm__law_draws cd__law_draws ct__law_draws : Value}
    {f__law_lowest : Addr} {od__law_lowest an__law_lowest : Option Addr} {sl__law_lowest : Array (Option Value)} {oc__law_lowest kV__law_lowest dc__law_lowest pm__law_lowest cd__law_lowest ct__law_lowest : Value}
    {f__law_wide : Addr} {od__law_wide an__law_wide : Option Addr} {sl__law_wide : Array (Option Value)} {oc__law_wide kV__law_wide dc__law_wide pm__law_wide cd__law_wide ct__law_wide : Value}
    {f__law_names : Addr} {od__law_names an__law_names : Option Addr} {sl__law_names : Array (Option Value)} {oc__law_names kV__law_names dc__law_names pm__law_names cd__law_names ct__law_names : Value}
    {f__law_chance : Addr} {od__law_chance an__law_chance : Option Addr} {sl__law_chance : Array (Option Value)} {oc__law_chance kV__law_chance dc__law_chance pm__law_chance cd__law_chance ct__law_chance : Value}
    {f__law_line : Addr} {od__law_line an__law_line : Option Addr} {sl__law_line : Array (Option Value)} {oc__law_line kV__law_line dc__law_line pm__law_line cd__law_line ct__law_line : Value}
    {f__law_text : Addr} {od__law_text an__law_text : Option Addr} {sl__law_text : Array (Option Value)} {oc__law_text kV__law_text dc__law_text pm__law_text cd__law_text ct__law_text : Value}
    {f_law : Addr} {od_law an_law : Option Addr} {sl_law : Array (Option Value)} {oc_law kV_law dc_law pm_law cd_law ct_law : Value}
    
    (a__write_chance : PySem.W.nsIn K mainGlobals "_write_chance" = some (some (.ref f__write_chance))) (l__write_chance : K.lookup f__write_chance = some ⟨oc__write_chance, od__write_chance, .func (PySem.W.fnOf "_write_chance" "_write_chance" (defArgs s__write_chance) (defBody s__write_chance) (defScope s__write_chance) .none kV__write_chance dc__write_chance pm__write_chance an__write_chance cd__write_chance ct__write_chance), sl__write_chance⟩) (c__write_chance : PySem.W.codeIn K cd__write_chance "_write_chance" = true) (e__write_chance : PySem.W.keepIn K (.ref f__write_chance) = true)
    (a__write_line : PySem.W.nsIn K mainGlobals "_write_line" = some (some (.ref f__write_line))) (l__write_line : K.lookup f__write_line = some ⟨oc__write_line, od__write_line, .func (PySem.W.fnOf "_write_line" "_write_line" (defArgs s__write_line) (defBody s__write_line) (defScope s__write_line) .none kV__write_line dc__write_line pm__write_line an__write_line cd__write_line ct__write_line), sl__write_line⟩) (c__write_line : PySem.W.codeIn K cd__write_line "_write_line" = true) (e__write_line : PySem.W.keepIn K (.ref f__write_line) = true)
    (a_write_sheet : PySem.W.nsIn K mainGlobals "write_sheet" = some (some (.ref f_write_sheet))) (l_write_sheet : K.lookup f_write_sheet = some ⟨oc_write_sheet, od_write_sheet, .func (PySem.W.fnOf "write_sheet" "write_sheet" (defArgs s_write_sheet) (defBody s_write_sheet) (defScope s_write_sheet) .none kV_write_sheet dc_write_sheet pm_write_sheet an_write_sheet cd_write_sheet ct_write_sheet), sl_write_sheet⟩) (c_write_sheet : PySem.W.codeIn K cd_write_sheet "write_sheet" = true) (e_write_sheet : PySem.W.keepIn K (.ref f_write_sheet) = true)
    (a__law_draws : PySem.W.nsIn K mainGlobals "_law_draws" = some (some (.ref f__law_draws))) (l__law_draws : K.lookup f__law_draws = some ⟨oc__law_draws, od__law_draws, .func (PySem.W.fnOf "_law_draws" "_law_draws" (defArgs s__law_draws) (defBody s__law_draws) (defScope s__law_draws) .none kV__law_draws dc__law_draws pm__law_draws an__law_draws cd__law_draws ct__law_draws), sl__law_draws⟩) (c__law_draws : PySem.W.codeIn K cd__law_draws "_law_draws" = true) (e__law_draws : PySem.W.keepIn K (.ref f__law_draws) = true)
    (a__law_lowest : PySem.W.nsIn K mainGlobals "_law_lowest" = some (some (.ref f__law_lowest))) (l__law_lowest : K.lookup f__law_lowest = some ⟨oc__law_lowest, od__law_lowest, .func (PySem.W.fnOf "_law_lowest" "_law_lowest" (defArgs s__law_lowest) (defBody s__law_lowest) (defScope s__law_lowest) .none kV__law_lowest dc__law_lowest pm__law_lowest an__law_lowest cd__law_lowest ct__law_lowest), sl__law_lowest⟩) (c__law_lowest : PySem.W.codeIn K cd__law_lowest "_law_lowest" = true) (e__law_lowest : PySem.W.keepIn K (.ref f__law_lowest) = true)
    (a__law_wide : PySem.W.nsIn K mainGlobals "_law_wide" = some (some (.ref f__law_wide))) (l__law_wide : K.lookup f__law_wide = some ⟨oc__law_wide, od__law_wide, .func (PySem.W.fnOf "_law_wide" "_law_wide" (defArgs s__law_wide) (defBody s__law_wide) (defScope s__law_wide) .none kV__law_wide dc__law_wide pm__law_wide an__law_wide cd__law_wide ct__law_wide), sl__law_wide⟩) (c__law_wide : PySem.W.codeIn K cd__law_wide "_law_wide" = true) (e__law_wide : PySem.W.keepIn K (.ref f__law_wide) = true)
    (a__law_names : PySem.W.nsIn K mainGlobals "_law_names" = some (some (.ref f__law_names))) (l__law_names : K.lookup f__law_names = some ⟨oc__law_names, od__law_names, .func (PySem.W.fnOf "_law_names" "_law_names" (defArgs s__law_names) (defBody s__law_names) (defScope s__law_names) .none kV__law_names dc__law_names pm__law_names an__law_names cd__law_names ct__law_names), sl__law_names⟩) (c__law_names : PySem.W.codeIn K cd__law_names "_law_names" = true) (e__law_names : PySem.W.keepIn K (.ref f__law_names) = true)
    (a__law_chance : PySem.W.nsIn K mainGlobals "_law_chance" = some (some (.ref f__law_chance))) (l__law_chance : K.lookup f__law_chance = some ⟨oc__law_chance, od__law_chance, .func (PySem.W.fnOf "_law_chance" "_law_chance" (defArgs s__law_chance) (defBody s__law_chance) (defScope s__law_chance) .none kV__law_chance dc__law_chance pm__law_chance an__law_chance cd__law_chance ct__law_chance), sl__law_chance⟩) (c__law_chance : PySem.W.codeIn K cd__law_chance "_law_chance" = true) (e__law_chance : PySem.W.keepIn K (.ref f__law_chance) = true)
    (a__law_line : PySem.W.nsIn K mainGlobals "_law_line" = some (some (.ref f__law_line))) (l__law_line : K.lookup f__law_line = some ⟨oc__law_line, od__law_line, .func (PySem.W.fnOf "_law_line" "_law_line" (defArgs s__law_line) (defBody s__law_line) (defScope s__law_line) .none kV__law_line dc__law_line pm__law_line an__law_line cd__law_line ct__law_line), sl__law_line⟩) (c__law_line : PySem.W.codeIn K cd__law_line "_law_line" = true) (e__law_line : PySem.W.keepIn K (.ref f__law_line) = true)
    (a__law_text : PySem.W.nsIn K mainGlobals "_law_text" = some (some (.ref f__law_text))) (l__law_text : K.lookup f__law_text = some ⟨oc__law_text, od__law_text, .func (PySem.W.fnOf "_law_text" "_law_text" (defArgs s__law_text) (defBody s__law_text) (defScope s__law_text) .none kV__law_text dc__law_text pm__law_text an__law_text cd__law_text ct__law_text), sl__law_text⟩) (c__law_text : PySem.W.codeIn K cd__law_text "_law_text" = true) (e__law_text : PySem.W.keepIn K (.ref f__law_text) = true)
    (a_law : PySem.W.nsIn K mainGlobals "law" = some (some (.ref f_law))) (l_law : K.lookup f_law = some ⟨oc_law, od_law, .func (PySem.W.fnOf "law" "law" (defArgs s_law) (defBody s_law) (defScope s_law) .none kV_law dc_law pm_law an_law cd_law ct_law), sl_law⟩) (c_law : PySem.W.codeIn K cd_law "law" = true) (e_law : PySem.W.keepIn K (.ref f_law) = true)
    (z_int : PySem.W.nsIn K mainGlobals "int" = some none) (z_isinstance : PySem.W.nsIn K mainGlobals "isinstance" = some none) (z_len : PySem.W.nsIn K mainGlobals "len" = some none) (z_range : PySem.W.nsIn K mainGlobals "range" = some none) (z_repr : PySem.W.nsIn K mainGlobals "repr" = some none) (z_str : PySem.W.nsIn K mainGlobals "str" = some none) (z_sum : PySem.W.nsIn K mainGlobals "sum" = some none) (z_zip : PySem.W.nsIn K mainGlobals "zip" = some none)  :
    ∃ fd : FuncData, (∀ (s : Shared) (v : Value), BindsTo s fd ⟨[v], []⟩ [("script", v)]) ∧ ∀ base : Heap, K.In base → base.Ns mainGlobals mg → RunG l.prog w K mg base 4 fa fd ["script"] (spS K m_law) := by
  have e := hfa.symm.trans (PySem.W.mg_of X G a_law)
  cases e

  have F := fun_mk (st := s_law) l_law c_law e_law
  refine ⟨PySem.W.fnOf "law" "law" (defArgs s_law) (defBody s_law) (defScope s_law) .none kV_law dc_law pm_law an_law cd_law ct_law, fun s v => .of_eq rfl, fun base _ _ => ?_⟩
  have D__write_chance := ok__write_chance (P := l.prog) (w := w) (mg := mg) (base := base) (fun_mk (st := s__write_chance) l__write_chance c__write_chance e__write_chance) (PySem.W.mg_of X G a__write_chance) (PySem.W.mg_none_of X G z_str)
  have D__write_line := ok__write_line (P := l.prog) (w := w) (mg := mg) (base := base) (fun_mk (st := s__write_line) l__write_line c__write_line e__write_line) (PySem.W.mg_of X G a__write_line) (PySem.W.mg_none_of X G z_str) D__write_chance
  have D_write_sheet := ok_write_sheet (P := l.prog) (w := w) (mg := mg) (base := base) (fun_mk (st := s_write_sheet) l_write_sheet c_write_sheet e_write_sheet) (PySem.W.mg_of X G a_write_sheet) (PySem.W.mg_none_of X G z_zip) D__write_line
  have D__law_draws := ok__law_draws (P := l.prog) (w := w) (mg := mg) (base := base) (fun_mk (st := s__law_draws) l__law_draws c__law_draws e__law_draws) (PySem.W.mg_of X G a__law_draws) (PySem.W.mg_none_of X G z_int) (PySem.W.mg_none_of X G z_len) (PySem.W.mg_none_of X G z_range)
  have D__law_lowest := ok__law_lowest (P := l.prog) (w := w) (mg := mg) (base := base) (fun_mk (st := s__law_lowest) l__law_lowest c__law_lowest e__law_lowest) (PySem.W.mg_of X G a__law_lowest) (PySem.W.mg_none_of X G z_int) (PySem.W.mg_none_of X G z_range)
  have D__law_wide := ok__law_wide (P := l.prog) (w := w) (mg := mg) (base := base) (fun_mk (st := s__law_wide) l__law_wide c__law_wide e__law_wide) (PySem.W.mg_of X G a__law_wide) (PySem.W.mg_none_of X G z_int) (PySem.W.mg_none_of X G z_range) (PySem.W.mg_none_of X G z_sum) D__law_lowest
  have D__law_names := ok__law_names (P := l.prog) (w := w) (mg := mg) (base := base) (fun_mk (st := s__law_names) l__law_names c__law_names e__law_names) (PySem.W.mg_of X G a__law_names) (PySem.W.mg_none_of X G z_int) (PySem.W.mg_none_of X G z_range) (PySem.W.mg_none_of X G z_str)
  have D__law_chance := ok__law_chance (P := l.prog) (w := w) (mg := mg) (base := base) (fun_mk (st := s__law_chance) l__law_chance c__law_chance e__law_chance) (PySem.W.mg_of X G a__law_chance) (PySem.W.mg_none_of X G z_int) (PySem.W.mg_none_of X G z_str)
  have D__law_line := ok__law_line (P := l.prog) (w := w) (mg := mg) (base := base) (fun_mk (st := s__law_line) l__law_line c__law_line e__law_line) (PySem.W.mg_of X G a__law_line) (PySem.W.mg_none_of X G z_str) D__law_chance
  have D__law_text := ok__law_text (P := l.prog) (w := w) (mg := mg) (base := base) (fun_mk (st := s__law_text) l__law_text c__law_text e__law_text) (PySem.W.mg_of X G a__law_text) 
  exact ok_law (P := l.prog) (w := w) (mg := mg) (base := base) F (PySem.W.mg_none_of X G z_isinstance) (PySem.W.mg_none_of X G z_len) (PySem.W.mg_none_of X G z_range) (PySem.W.mg_none_of X G z_repr) (PySem.W.mg_none_of X G z_str) D__law_draws D__law_wide D__law_names D_write_sheet D__law_text D__law_line
end Lw
open PySem PySem.W PyProof.Rows
set_option maxHeartbeats 0 in
theorem PySem.Challenge.cw_oddcrown_k10_sheets_are_written_holds : PySem.Challenge.rw_oddcrown_k10_sheets_are_written.Holds := by
  w_on; o_law; k_head; (case hw => w_witness2)
  k_fill
  refine Dl.walk_ofG (l := PySem.Challenge.rw_oddcrown_k10_sheets_are_written) (n := 63) (k := 4) (x := "script") (sp := fun w => Dl.spS _ Lw.m_law) rfl (by decide) rfl ⟨rfl, by decide, by decide⟩ (fun w h Y => PySem.W.kIn_of Y) ?F (fun _ H a ns hl _ hS => Dl.law_end Lw.law_true H a ns hl hS)
  case F =>
    intro w mg fa h KX G hmg
    refine' Lw.all_mk KX G hmg ?a__write_chance ?l__write_chance ?c__write_chance ?e__write_chance ?a__write_line ?l__write_line ?c__write_line ?e__write_line ?a_write_sheet ?l_write_sheet ?c_write_sheet ?e_write_sheet ?a__law_draws ?l__law_draws ?c__law_draws ?e__law_draws ?a__law_lowest ?l__law_lowest ?c__law_lowest ?e__law_lowest ?a__law_wide ?l__law_wide ?c__law_wide ?e__law_wide ?a__law_names ?l__law_names ?c__law_names ?e__law_names ?a__law_chance ?l__law_chance ?c__law_chance ?e__law_chance ?a__law_line ?l__law_line ?c__law_line ?e__law_line ?a__law_text ?l__law_text ?c__law_text ?e__law_text ?a_law ?l_law ?c_law ?e_law ?z_int ?z_isinstance ?z_len ?z_range ?z_repr ?z_str ?z_sum ?z_zip
    (case a__write_chance => k_is); (case l__write_chance => k_is); (case c__write_chance => k_is); (case e__write_chance => k_is); (case a__write_line => k_is); (case l__write_line => k_is); (case c__write_line => k_is); (case e__write_line => k_is); (case a_write_sheet => k_is); (case l_write_sheet => k_is); (case c_write_sheet => k_is); (case e_write_sheet => k_is); (case a__law_draws => k_is); (case l__law_draws => k_is); (case c__law_draws => k_is); (case e__law_draws => k_is); (case a__law_lowest => k_is); (case l__law_lowest => k_is); (case c__law_lowest => k_is); (case e__law_lowest => k_is); (case a__law_wide => k_is); (case l__law_wide => k_is); (case c__law_wide => k_is); (case e__law_wide => k_is); (case a__law_names => k_is); (case l__law_names => k_is); (case c__law_names => k_is); (case e__law_names => k_is); (case a__law_chance => k_is); (case l__law_chance => k_is); (case c__law_chance => k_is); (case e__law_chance => k_is); (case a__law_line => k_is); (case l__law_line => k_is); (case c__law_line => k_is); (case e__law_line => k_is); (case a__law_text => k_is); (case l__law_text => k_is); (case c__law_text => k_is); (case e__law_text => k_is); (case a_law => k_is); (case l_law => k_is); (case c_law => k_is); (case e_law => k_is); (case z_int => k_is); (case z_isinstance => k_is); (case z_len => k_is); (case z_range => k_is); (case z_repr => k_is); (case z_str => k_is); (case z_sum => k_is); (case z_zip => k_is)

