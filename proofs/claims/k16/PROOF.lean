import PyProof.Rows.All
import Wide.All
import OpenK.AllK
import Wide.FinOn
import HandS.ForMost
import HandS.Evl
import HandS.Flow
import HandS.Style
import HandS.SortInts
import HandS.TupAny
import HandS.IsInst
import HandS.Defaults
import HandS.Walk
import HandS.Zip
import HandS.Sort
import HandS.More
import HandS.Head0
import HandS.Head1
import HandS.Head2
import HandS.HeadEnd
import HandS.HeadHook1
import HandS.HeadHook2
import HandS.MakeKwOnly
import HandS.Iter
import PyProof.SeqRoads2
import HandS.SetFor
import PyProof.EqKinds
import PySem.Challenge.RW_surelyseen_k16_incidents_settled
set_option Elab.async false
set_option linter.all false
set_option maxRecDepth 100000
namespace Sx
open PySem PySem.Spec PyProof.Rows L2
open Evl (Ex)

/-- data without addresses -/
inductive D where
  | non | bl (b : Bool) | int (i : Int) | str (x : Str) | lst (xs : List D) | tup (xs : List D) | scr (ns : List Int)

mutual
inductive Rp (K : PySem.W.Frag) (H : Hp) : V → D → Prop
  | non : Rp K H .non .non
  | bl (b : Bool) : Rp K H (.bl b) (.bl b)
  | int (i : Int) : Rp K H (.int i) (.int i)
  | str (x : Str) : Rp K H (.str x) (.str x)
  | lst {a : Addr} {xs : List V} {ds : List D} : H a = some (.lst xs) → RpL K H xs ds → Rp K H (.ref a) (.lst ds)
  | tup {a : Addr} {xs : List V} {ds : List D} : SqT K H a xs → RpL K H xs ds → Rp K H (.ref a) (.tup ds)
  | scr {a : Addr} {ns : List Int} : SqL K H a (ns.map V.int) → Rp K H (.ref a) (.scr ns)
inductive RpL (K : PySem.W.Frag) (H : Hp) : List V → List D → Prop
  | nil : RpL K H [] []
  | cons {v : V} {vs : List V} {d : D} {ds : List D} : Rp K H v d → RpL K H vs ds → RpL K H (v :: vs) (d :: ds)
end

section
variable {K : PySem.W.Frag} {H H' : Hp}
mutual
theorem Rp.mono (e : Ex H H') : ∀ (d : D) {v : V}, Rp K H v d → Rp K H' v d
  | .non, _, h => by cases h; exact .non
  | .bl b, _, h => by cases h; exact .bl b
  | .int i, _, h => by cases h; exact .int i
  | .str x, _, h => by cases h; exact .str x
  | .lst ds, _, h => by
    cases h with
    | lst h1 h2 => exact .lst (e _ _ h1) (RpL.mono e ds h2)
  | .tup ds, _, h => by
    cases h with
    | tup h1 h2 => exact .tup (Evl.ex_t e h1) (RpL.mono e ds h2)
  | .scr ns, _, h => by
    cases h with
    | scr h1 => exact .scr (Evl.ex_l e h1)
theorem RpL.mono (e : Ex H H') : ∀ (ds : List D) {vs : List V}, RpL K H vs ds → RpL K H' vs ds
  | [], _, h => by cases h; exact .nil
  | d :: ds, _, h => by
    cases h with
    | cons h1 h2 => exact .cons (Rp.mono e d h1) (RpL.mono e ds h2)
end
theorem RpL.length : ∀ {vs : List V} {ds : List D}, RpL K H vs ds → vs.length = ds.length
  | _, [], h => by cases h; rfl
  | _, d :: ds, h => by
    cases h with
    | cons h1 h2 => exact congrArg Nat.succ h2.length
theorem RpL.get : ∀ {vs : List V} {ds : List D} {i : Nat} {d : D}, RpL K H vs ds → ds[i]? = some d → ∃ v, vs[i]? = some v ∧ Rp K H v d
  | _, [], i, d, h, e => by simp at e
  | _, d :: ds, 0, d', h, e => by
    cases h with
    | cons h1 h2 =>
      simp at e
      subst e
      exact ⟨_, rfl, h1⟩
  | _, d :: ds, i + 1, d', h, e => by
    cases h with
    | cons h1 h2 =>
      obtain ⟨v, e1, e2⟩ := h2.get (i := i) (d := d') (by simpa using e)
      exact ⟨v, by simpa using e1, e2⟩
theorem RpL.getV {vs : List V} {ds : List D} {i : Nat} {v : V} (h : RpL K H vs ds) (e : vs[i]? = some v) : ∃ d, ds[i]? = some d ∧ Rp K H v d := by
  have hi : i < vs.length := (List.getElem?_eq_some_iff.mp e).1
  rw [h.length] at hi
  obtain ⟨u, e1, e2⟩ := h.get (List.getElem?_eq_getElem hi)
  rw [e] at e1
  cases e1
  exact ⟨_, List.getElem?_eq_getElem hi, e2⟩
theorem RpL.app : ∀ {vs us : List V} {ds es : List D}, RpL K H vs ds → RpL K H us es → RpL K H (vs ++ us) (ds ++ es)
  | _, _, [], _, h, g => by cases h; exact g
  | _, _, d :: ds, _, h, g => by
    cases h with
    | cons h1 h2 => exact .cons h1 (h2.app g)
theorem RpL.one {v : V} {d : D} (h : Rp K H v d) : RpL K H [v] [d] := .cons h .nil
theorem RpL.take : ∀ {vs : List V} {ds : List D} (n : Nat), RpL K H vs ds → RpL K H (vs.take n) (ds.take n)
  | _, _, 0, _ => .nil
  | _, [], _ + 1, h => by cases h; exact .nil
  | _, d :: ds, n + 1, h => by
    cases h with
    | cons h1 h2 => exact .cons h1 (h2.take n)
theorem RpL.drop : ∀ {vs : List V} {ds : List D} (n : Nat), RpL K H vs ds → RpL K H (vs.drop n) (ds.drop n)
  | _, _, 0, h => h
  | _, [], _ + 1, h => by cases h; exact .nil
  | _, d :: ds, n + 1, h => by
    cases h with
    | cons h1 h2 => exact h2.drop n
theorem RpL.set {v : V} {d : D} (g : Rp K H v d) : ∀ {vs : List V} {ds : List D} (n : Nat), RpL K H vs ds → RpL K H (vs.set n v) (ds.set n d)
  | _, [], _, h => by cases h; exact .nil
  | _, e :: ds, 0, h => by
    cases h with
    | cons h1 h2 => exact .cons g h2
  | _, e :: ds, n + 1, h => by
    cases h with
    | cons h1 h2 => exact .cons h1 (h2.set g n)
theorem RpL.rev : ∀ {vs : List V} {ds : List D}, RpL K H vs ds → RpL K H vs.reverse ds.reverse
  | _, [], h => by cases h; exact .nil
  | _, d :: ds, h => by
    cases h with
    | cons h1 h2 =>
      rw [List.reverse_cons, List.reverse_cons]
      exact h2.rev.app (.one h1)
theorem RpL.rep (n : Nat) {vs : List V} {ds : List D} (h : RpL K H vs ds) : RpL K H (List.replicate n vs).flatten (List.replicate n ds).flatten := by
  induction n with
  | zero => exact .nil
  | succ n ih =>
    rw [List.replicate_succ, List.replicate_succ, List.flatten_cons, List.flatten_cons]
    exact h.app ih
theorem RpL.ints : ∀ (ns : List Int), RpL K H (ns.map V.int) (ns.map D.int)
  | [] => .nil
  | n :: ns => .cons (.int n) (RpL.ints ns)
theorem RpL.ints_of : ∀ {ns : List Int} {vs : List V}, RpL K H vs (ns.map D.int) → vs = ns.map V.int
  | [], _, h => by cases h; rfl
  | n :: ns, _, h => by
    cases h with
    | cons h1 h2 =>
      cases h1
      rw [RpL.ints_of h2]
      rfl
end

/-! ### hidden and owned addresses -/
abbrev AS := Addr → Prop
open Classical in
noncomputable def rem (W : AS) (H : Hp) : Hp := fun a => if W a then none else H a
abbrev orS (W U : AS) : AS := fun a => W a ∨ U a
abbrev noS : AS := fun _ => False
theorem rem_some {W : AS} {H : Hp} {a : Addr} {o : HO} : rem W H a = some o ↔ ¬ W a ∧ H a = some o := by
  unfold rem
  by_cases h : W a
  · rw [if_pos h]
    exact ⟨fun e => (nomatch e), fun e => absurd h e.1⟩
  · rw [if_neg h]
    exact ⟨fun e => ⟨h, e⟩, fun e => e.2⟩
theorem rem_ex {W : AS} {H : Hp} : Ex (rem W H) H := fun a o h => (rem_some.mp h).2
theorem rem_mono {W : AS} {H H' : Hp} (e : Ex H H') : Ex (rem W H) (rem W H') := fun a o h => rem_some.mpr ⟨(rem_some.mp h).1, e a o (rem_some.mp h).2⟩
theorem rem_sub {W U : AS} {H : Hp} (s : ∀ a, U a → W a) : Ex (rem W H) (rem U H) := fun a o h => rem_some.mpr ⟨fun z => (rem_some.mp h).1 (s a z), (rem_some.mp h).2⟩
theorem rem_no {H : Hp} : Ex H (rem noS H) := fun a o h => rem_some.mpr ⟨fun z => z, h⟩
/-- what stood stays visible when a new object is set aside -/
theorem rem_new {W : AS} {H H' : Hp} {p : Addr} (hp : H p = none) (e : Ex H H') : Ex (rem W H) (rem (orS W (· = p)) H') := fun a o h => by
  obtain ⟨h1, h2⟩ := rem_some.mp h
  refine rem_some.mpr ⟨fun z => ?_, e a o h2⟩
  rcases z with z | z
  · exact h1 z
  · rw [z, hp] at h2
    cases h2
/-- a hidden object may change -/
theorem rem_upd {W : AS} {H : Hp} {p : Addr} {o : HO} (hp : W p) : Ex (rem W H) (rem W (upd H p o)) := fun a u h => by
  obtain ⟨h1, h2⟩ := rem_some.mp h
  refine rem_some.mpr ⟨h1, ?_⟩
  rw [upd_ne (fun z => by subst z; exact h1 hp)]
  exact h2

/-! ### environments -/
inductive Sl where
  | un | fz (d : D) | ow (ds : List D)
abbrev En := List Sl

structure RE (K : PySem.W.Frag) (hid O : AS) (B H : Hp) (σ : L2.St) (E : En) : Prop where
  base : ∀ a o, B a = some o → H a = some o ∧ ¬ O a
  own : ∀ a, O a → ¬ hid a ∧ ∃ xs, H a = some (.lst xs)
  hidd : ∀ a, hid a → ∃ xs, B a = some (.lst xs)
  len : σ.length = E.length
  fz : ∀ (i : Nat) (d : D), E[i]? = some (.fz d) → ∃ v, σ[i]? = some (some v) ∧ Rp K (rem (orS hid O) H) v d
  ow : ∀ (i : Nat) (ds : List D), E[i]? = some (.ow ds) → ∃ (p : Addr) (xs : List V), σ[i]? = some (some (.ref p)) ∧ O p ∧ H p = some (.lst xs) ∧ RpL K (rem (orS hid O) H) xs ds
  dis : ∀ (i j : Nat) (p : Addr) (ds es : List D), i ≠ j → E[i]? = some (.ow ds) → E[j]? = some (.ow es) → σ[i]? = some (some (.ref p)) → σ[j]? = some (some (.ref p)) → False

section
variable {K : PySem.W.Frag} {hid O : AS} {B H H' : Hp} {σ : L2.St} {E : En}
theorem RE.ex (r : RE K hid O B H σ E) : Ex B H := fun a o h => (r.base a o h).1
theorem RE.fresh (r : RE K hid O B H σ E) {p : Addr} (h : H p = none) : ¬ orS hid O p := fun z => by
  rcases z with z | z
  · obtain ⟨o, e⟩ := r.hidd p z
    rw [(r.base p _ e).1] at h
    cases h
  · obtain ⟨_, xs, e⟩ := r.own p z
    rw [e] at h
    cases h
theorem RE.grow (r : RE K hid O B H σ E) (e : Ex H H') : RE K hid O B H' σ E where
  base := fun a o h => ⟨e a o (r.base a o h).1, (r.base a o h).2⟩
  own := fun a h => ⟨(r.own a h).1, let ⟨xs, q⟩ := (r.own a h).2; ⟨xs, e a _ q⟩⟩
  hidd := r.hidd
  len := r.len
  fz := fun i d h => let ⟨v, h1, h2⟩ := r.fz i d h; ⟨v, h1, h2.mono (rem_mono e) d⟩
  ow := fun i ds h => let ⟨p, xs, h1, h2, h3, h4⟩ := r.ow i ds h; ⟨p, xs, h1, h2, e p _ h3, h4.mono (rem_mono e) ds⟩
  dis := r.dis
/-- a slot is stored -/
theorem RE.put (r : RE K hid O B H σ E) {v : V} {d : D} (j : Nat) (h : Rp K (rem (orS hid O) H) v d) : RE K hid O B H (σ.set j (some v)) (E.set j (.fz d)) where
  base := r.base
  own := r.own
  hidd := r.hidd
  len := by rw [List.length_set, List.length_set]; exact r.len
  fz := fun i d' q => by
    by_cases hi : j = i
    · subst hi
      have hl : j < E.length := by
        have := (List.getElem?_eq_some_iff.mp q).1
        rwa [List.length_set] at this
      rw [List.getElem?_set_self hl] at q
      cases q
      exact ⟨v, List.getElem?_set_self (r.len ▸ hl), h⟩
    · rw [List.getElem?_set_ne hi] at q
      rw [List.getElem?_set_ne hi]
      exact r.fz i d' q
  ow := fun i ds q => by
    by_cases hi : j = i
    · subst hi
      have hl : j < E.length := by
        have := (List.getElem?_eq_some_iff.mp q).1
        rwa [List.length_set] at this
      rw [List.getElem?_set_self hl] at q
      cases q
    · rw [List.getElem?_set_ne hi] at q
      rw [List.getElem?_set_ne hi]
      exact r.ow i ds q
  dis := fun i k p ds es hik q1 q2 s1 s2 => by
    have n1 : j ≠ i := fun z => by
      subst z
      have hl : j < E.length := by
        have := (List.getElem?_eq_some_iff.mp q1).1
        rwa [List.length_set] at this
      rw [List.getElem?_set_self hl] at q1
      cases q1
    have n2 : j ≠ k := fun z => by
      subst z
      have hl : j < E.length := by
        have := (List.getElem?_eq_some_iff.mp q2).1
        rwa [List.length_set] at this
      rw [List.getElem?_set_self hl] at q2
      cases q2
    rw [List.getElem?_set_ne n1] at q1 s1
    rw [List.getElem?_set_ne n2] at q2 s2
    exact r.dis i k p ds es hik q1 q2 s1 s2
/-- a slot is forgotten -/
theorem RE.drop (r : RE K hid O B H σ E) (j : Nat) : RE K hid O B H (σ.set j none) (E.set j .un) where
  base := r.base
  own := r.own
  hidd := r.hidd
  len := by rw [List.length_set, List.length_set]; exact r.len
  fz := fun i d' q => by
    have hi : j ≠ i := fun z => by
      subst z
      have hl : j < E.length := by
        have := (List.getElem?_eq_some_iff.mp q).1
        rwa [List.length_set] at this
      rw [List.getElem?_set_self hl] at q
      cases q
    rw [List.getElem?_set_ne hi] at q
    rw [List.getElem?_set_ne hi]
    exact r.fz i d' q
  ow := fun i ds q => by
    have hi : j ≠ i := fun z => by
      subst z
      have hl : j < E.length := by
        have := (List.getElem?_eq_some_iff.mp q).1
        rwa [List.length_set] at this
      rw [List.getElem?_set_self hl] at q
      cases q
    rw [List.getElem?_set_ne hi] at q
    rw [List.getElem?_set_ne hi]
    exact r.ow i ds q
  dis := fun i k p ds es hik q1 q2 s1 s2 => by
    have n1 : j ≠ i := fun z => by
      subst z
      have hl : j < E.length := by
        have := (List.getElem?_eq_some_iff.mp q1).1
        rwa [List.length_set] at this
      rw [List.getElem?_set_self hl] at q1
      cases q1
    have n2 : j ≠ k := fun z => by
      subst z
      have hl : j < E.length := by
        have := (List.getElem?_eq_some_iff.mp q2).1
        rwa [List.length_set] at this
      rw [List.getElem?_set_self hl] at q2
      cases q2
    rw [List.getElem?_set_ne n1] at q1 s1
    rw [List.getElem?_set_ne n2] at q2 s2
    exact r.dis i k p ds es hik q1 q2 s1 s2
/-- a new list, owned by a slot -/
theorem RE.putO (r : RE K hid O B H σ E) {p : Addr} {xs : List V} {ds : List D} (j : Nat) (hp : H p = none) (e : Ex H H') (hx : H' p = some (.lst xs)) (h : RpL K (rem (orS (orS hid O) (· = p)) H') xs ds) :
    RE K hid (orS O (· = p)) B H' (σ.set j (some (.ref p))) (E.set j (.ow ds)) := by
  have sub : ∀ a, orS hid (orS O (· = p)) a → orS (orS hid O) (· = p) a := fun a z => by
    rcases z with z | z | z
    · exact .inl (.inl z)
    · exact .inl (.inr z)
    · exact .inr z
  have vis : Ex (rem (orS hid O) H) (rem (orS hid (orS O (· = p))) H') := fun a o q => rem_sub sub _ _ (rem_new (W := orS hid O) hp e a o q)
  have old : ∀ (i : Nat) (q : Addr), σ[i]? = some (some (V.ref q)) → O q → q ≠ p := fun i q _ z w => by
    subst w
    exact r.fresh hp (.inr z)
  refine ⟨fun a o q => ⟨e a o (r.base a o q).1, fun z => ?_⟩, fun a z => ?_, r.hidd, ?_, fun i d q => ?_, fun i es q => ?_, fun i k q es fs hik q1 q2 s1 s2 => ?_⟩
  · rcases z with z | z
    · exact (r.base a o q).2 z
    · subst z
      rw [(r.base _ o q).1] at hp
      cases hp
  · rcases z with z | z
    · exact ⟨(r.own a z).1, let ⟨ys, q⟩ := (r.own a z).2; ⟨ys, e a _ q⟩⟩
    · subst z
      exact ⟨fun w => r.fresh hp (.inl w), xs, hx⟩
  · rw [List.length_set, List.length_set]
    exact r.len
  · have hi : j ≠ i := fun z => by
      subst z
      have hl : j < E.length := by
        have := (List.getElem?_eq_some_iff.mp q).1
        rwa [List.length_set] at this
      rw [List.getElem?_set_self hl] at q
      cases q
    rw [List.getElem?_set_ne hi] at q
    rw [List.getElem?_set_ne hi]
    obtain ⟨v, h1, h2⟩ := r.fz i d q
    exact ⟨v, h1, h2.mono vis d⟩
  · by_cases hi : j = i
    · subst hi
      have hl : j < E.length := by
        have := (List.getElem?_eq_some_iff.mp q).1
        rwa [List.length_set] at this
      rw [List.getElem?_set_self hl] at q
      cases q
      exact ⟨p, xs, List.getElem?_set_self (r.len ▸ hl), .inr rfl, hx, h.mono (rem_sub sub) ds⟩
    · rw [List.getElem?_set_ne hi] at q
      rw [List.getElem?_set_ne hi]
      obtain ⟨q', ys, h1, h2, h3, h4⟩ := r.ow i es q
      exact ⟨q', ys, h1, .inl h2, e _ _ h3, h4.mono vis es⟩
  · by_cases h1 : j = i
    · subst h1
      have hl : j < E.length := by
        have := (List.getElem?_eq_some_iff.mp q1).1
        rwa [List.length_set] at this
      rw [List.getElem?_set_self (r.len ▸ hl)] at s1
      cases s1
      rw [List.getElem?_set_ne hik] at q2 s2
      obtain ⟨q', ys, g1, g2, _⟩ := r.ow k fs q2
      rw [s2] at g1
      cases g1
      exact old k _ s2 g2 rfl
    · rw [List.getElem?_set_ne h1] at q1 s1
      by_cases h2 : j = k
      · subst h2
        have hl : j < E.length := by
          have := (List.getElem?_eq_some_iff.mp q2).1
          rwa [List.length_set] at this
        rw [List.getElem?_set_self (r.len ▸ hl)] at s2
        cases s2
        obtain ⟨q', ys, g1, g2, _⟩ := r.ow i es q1
        rw [s1] at g1
        cases g1
        exact old i _ s1 g2 rfl
      · rw [List.getElem?_set_ne h2] at q2 s2
        exact r.dis i k q es fs hik q1 q2 s1 s2
/-- an owned list changes -/
theorem RE.chg (r : RE K hid O B H σ E) {p : Addr} {xs : List V} {ds ds' : List D} {j : Nat} (hj : E[j]? = some (.ow ds)) (hs : σ[j]? = some (some (.ref p))) (h : RpL K (rem (orS hid O) H) xs ds') :
    RE K hid O B (upd H p (.lst xs)) σ (E.set j (.ow ds')) := by
  obtain ⟨p', xs0, g1, hO, hH, g4⟩ := r.ow j ds hj
  rw [hs] at g1
  cases g1
  have vis : Ex (rem (orS hid O) H) (rem (orS hid O) (upd H p (.lst xs))) := rem_upd (.inr hO)
  have hl : j < E.length := (List.getElem?_eq_some_iff.mp hj).1
  have eo : ∀ a o, a ≠ p → H a = some o → upd H p (.lst xs) a = some o := fun a o n q => by rw [upd_ne n]; exact q
  refine ⟨fun a o q => ⟨eo a o (fun z => (r.base a o q).2 (z ▸ hO)) (r.base a o q).1, (r.base a o q).2⟩, fun a z => ⟨(r.own a z).1, ?_⟩, r.hidd, ?_, fun i d q => ?_, fun i es q => ?_, fun i k q es fs hik q1 q2 s1 s2 => ?_⟩
  · by_cases e : a = p
    · subst e
      exact ⟨xs, upd_same⟩
    · obtain ⟨ys, q⟩ := (r.own a z).2
      exact ⟨ys, eo a _ e q⟩
  · rw [List.length_set]
    exact r.len
  · have hi : j ≠ i := fun z => by
      subst z
      rw [List.getElem?_set_self hl] at q
      cases q
    rw [List.getElem?_set_ne hi] at q
    obtain ⟨v, h1, h2⟩ := r.fz i d q
    exact ⟨v, h1, h2.mono vis d⟩
  · by_cases hi : j = i
    · subst hi
      rw [List.getElem?_set_self hl] at q
      cases q
      exact ⟨p, xs, hs, hO, upd_same, h.mono vis ds'⟩
    · rw [List.getElem?_set_ne hi] at q
      obtain ⟨q', ys, h1, h2, h3, h4⟩ := r.ow i es q
      have hne : q' ≠ p := fun z => by
        subst z
        exact r.dis j i _ ds es hi hj q hs h1
      exact ⟨q', ys, h1, h2, eo _ _ hne h3, h4.mono vis es⟩
  · have old : ∀ (i : Nat) (es : List D), (E.set j (.ow ds'))[i]? = some (Sl.ow es) → ∃ gs, E[i]? = some (Sl.ow gs) := fun i es q => by
      by_cases hi : j = i
      · subst hi
        exact ⟨ds, hj⟩
      · rw [List.getElem?_set_ne hi] at q
        exact ⟨es, q⟩
    obtain ⟨g1, e1⟩ := old i es q1
    obtain ⟨g2, e2⟩ := old k fs q2
    exact r.dis i k q g1 g2 hik e1 e2 s1 s2
/-- an owned list becomes like any other value -/
theorem RE.frz (r : RE K hid O B H σ E) {ds : List D} {j : Nat} (hj : E[j]? = some (.ow ds)) : ∃ O', RE K hid O' B H σ (E.set j (.fz (.lst ds))) ∧ ∀ a, O' a → O a := by
  obtain ⟨p, xs, hs, hO, hH, h4⟩ := r.ow j ds hj
  have hl : j < E.length := (List.getElem?_eq_some_iff.mp hj).1
  refine ⟨fun a => O a ∧ a ≠ p, ⟨fun a o q => ⟨(r.base a o q).1, fun z => (r.base a o q).2 z.1⟩, fun a z => r.own a z.1, r.hidd, ?_, fun i d q => ?_, fun i es q => ?_, fun i k q es fs hik q1 q2 s1 s2 => ?_⟩, fun a z => z.1⟩
  · rw [List.length_set]
    exact r.len
  · have vis : Ex (rem (orS hid O) H) (rem (orS hid fun a => O a ∧ a ≠ p) H) := rem_sub fun a z => z.elim .inl fun z => .inr z.1
    by_cases hi : j = i
    · subst hi
      rw [List.getElem?_set_self hl] at q
      cases q
      refine ⟨.ref p, hs, .lst (rem_some.mpr ⟨fun z => ?_, hH⟩) (h4.mono vis ds)⟩
      rcases z with z | z
      · exact (r.own p hO).1 z
      · exact z.2 rfl
    · rw [List.getElem?_set_ne hi] at q
      obtain ⟨v, h1, h2⟩ := r.fz i d q
      exact ⟨v, h1, h2.mono vis d⟩
  · have vis : Ex (rem (orS hid O) H) (rem (orS hid fun a => O a ∧ a ≠ p) H) := rem_sub fun a z => z.elim .inl fun z => .inr z.1
    have hi : j ≠ i := fun z => by
      subst z
      rw [List.getElem?_set_self hl] at q
      cases q
    rw [List.getElem?_set_ne hi] at q
    obtain ⟨q', ys, h1, h2, h3, h4'⟩ := r.ow i es q
    exact ⟨q', ys, h1, ⟨h2, fun z => by subst z; exact r.dis j i _ ds es hi hj q hs h1⟩, h3, h4'.mono vis es⟩
  · have n : ∀ (i : Nat) (es : List D), (E.set j (.fz (.lst ds)))[i]? = some (Sl.ow es) → E[i]? = some (Sl.ow es) := fun i es q => by
      by_cases hi : j = i
      · subst hi
        rw [List.getElem?_set_self hl] at q
        cases q
      · rwa [List.getElem?_set_ne hi] at q
    exact r.dis i k q es fs hik (n i es q1) (n k fs q2) s1 s2
/-- the entry of a def -/
theorem RE.start {vs : List V} {ds : List D} {N : List Str} (hd : ∀ a, hid a → ∃ xs, H a = some (.lst xs)) (h : RpL K (rem hid H) vs ds) : RE K hid noS H H (start N vs) (ds.map Sl.fz ++ List.replicate (N.length - ds.length) Sl.un) where
  base := fun a o q => ⟨q, fun z => z⟩
  own := fun a z => z.elim
  hidd := hd
  len := by
    unfold L2.start
    rw [List.length_append, List.length_append, List.length_map, List.length_map, List.length_replicate, List.length_replicate, h.length]
  fz := fun i d q => by
    have hi : i < ds.length := by
      by_cases hi : i < ds.length
      · exact hi
      · rw [List.getElem?_append_right (by rw [List.length_map]; omega)] at q
        rw [List.getElem?_replicate] at q
        split at q <;> cases q
    rw [List.getElem?_append_left (by rw [List.length_map]; exact hi), List.getElem?_map, List.getElem?_eq_getElem hi] at q
    cases q
    obtain ⟨v, e1, e2⟩ := h.get (List.getElem?_eq_getElem hi)
    refine ⟨v, ?_, e2.mono (rem_sub fun a z => z.elim id (fun z => z.elim)) _⟩
    unfold L2.start
    rw [List.getElem?_append_left (by rw [List.length_map, h.length]; exact hi), List.getElem?_map, e1]
    rfl
  ow := fun i es q => by
    exfalso
    by_cases hi : i < ds.length
    · rw [List.getElem?_append_left (by rw [List.length_map]; exact hi), List.getElem?_map, List.getElem?_eq_getElem hi] at q
      cases q
    · rw [List.getElem?_append_right (by rw [List.length_map]; omega)] at q
      rw [List.getElem?_replicate] at q
      split at q <;> cases q
  dis := fun i k p es fs _ q _ _ _ => by
    by_cases hi : i < ds.length
    · rw [List.getElem?_append_left (by rw [List.length_map]; exact hi), List.getElem?_map, List.getElem?_eq_getElem hi] at q
      cases q
    · rw [List.getElem?_append_right (by rw [List.length_map]; omega)] at q
      rw [List.getElem?_replicate] at q
      split at q <;> cases q
end
end Sx

set_option Elab.async false
set_option linter.all false
set_option maxRecDepth 100000
set_option maxHeartbeats 1000000
namespace Sx
open PySem PySem.Spec PyProof.Rows L2
open Evl (Ex)

/-- a value; an owned list may be named, too -/
def Tv (K : PySem.W.Frag) (hid O : AS) (H : Hp) (v : V) (d : D) : Prop :=
  Rp K (rem (orS hid O) H) v d ∨ ∃ p xs ds, d = .lst ds ∧ v = .ref p ∧ O p ∧ H p = some (.lst xs) ∧ RpL K (rem (orS hid O) H) xs ds
abbrev Al (hid O : AS) (H : Hp) : Prop := ∀ p, H p = none → ¬ orS hid O p
section
variable {K : PySem.W.Frag} {hid O : AS} {B H H' : Hp} {σ : L2.St} {E : En} {v : V} {d : D}
theorem Tv.mono (e : Ex H H') (h : Tv K hid O H v d) : Tv K hid O H' v d := by
  rcases h with h | ⟨p, xs, ds, h1, h2, h3, h4, h5⟩
  · exact .inl (h.mono (rem_mono e) d)
  · exact .inr ⟨p, xs, ds, h1, h2, h3, e p _ h4, h5.mono (rem_mono e) ds⟩
theorem Tv.lst {ds : List D} (h : Tv K hid O H v (.lst ds)) : ∃ p xs, v = .ref p ∧ H p = some (.lst xs) ∧ RpL K (rem (orS hid O) H) xs ds := by
  rcases h with h | ⟨p, xs, es, h1, h2, h3, h4, h5⟩
  · cases h with
    | lst h1 h2 => exact ⟨_, _, rfl, (rem_some.mp h1).2, h2⟩
  · cases h1
    exact ⟨p, xs, h2, h4, h5⟩
theorem Tv.full (h : Tv K hid O H v d) : Rp K H v d := by
  rcases h with h | ⟨p, xs, ds, rfl, rfl, h3, h4, h5⟩
  · exact h.mono rem_ex d
  · exact .lst h4 (h5.mono rem_ex ds)
theorem Tv.int {i : Int} (h : Tv K hid O H v (.int i)) : v = .int i := by
  rcases h with h | ⟨p, xs, ds, h1, _⟩
  · cases h; rfl
  · cases h1
theorem Tv.bl {i : Bool} (h : Tv K hid O H v (.bl i)) : v = .bl i := by
  rcases h with h | ⟨p, xs, ds, h1, _⟩
  · cases h; rfl
  · cases h1
theorem Tv.str {i : Str} (h : Tv K hid O H v (.str i)) : v = .str i := by
  rcases h with h | ⟨p, xs, ds, h1, _⟩
  · cases h; rfl
  · cases h1
theorem Tv.non (h : Tv K hid O H v .non) : v = .non := by
  rcases h with h | ⟨p, xs, ds, h1, _⟩
  · cases h; rfl
  · cases h1
theorem Tv.tup {ds : List D} (h : Tv K hid O H v (.tup ds)) : ∃ p xs, v = .ref p ∧ SqT K (rem (orS hid O) H) p xs ∧ RpL K (rem (orS hid O) H) xs ds := by
  rcases h with h | ⟨p, xs, es, h1, _⟩
  · cases h with
    | tup h1 h2 => exact ⟨_, _, rfl, h1, h2⟩
  · cases h1
theorem Tv.scr {ns : List Int} (h : Tv K hid O H v (.scr ns)) : ∃ p, v = .ref p ∧ SqL K H p (ns.map V.int) := by
  rcases h with h | ⟨p, xs, es, h1, _⟩
  · cases h with
    | scr h1 => exact ⟨_, rfl, Evl.ex_l rem_ex h1⟩
  · cases h1
theorem al_of (r : RE K hid O B H σ E) : Al hid O H := fun p h => r.fresh h
/-- a list as a sequence to read -/
theorem Tv.seq {ds : List D} (h : Tv K hid O H v (.lst ds)) : ∃ p xs, v = .ref p ∧ SqL K H p xs ∧ RpL K (rem (orS hid O) H) xs ds := by
  obtain ⟨p, xs, e, h1, h2⟩ := h.lst
  exact ⟨p, xs, e, .inl (.inl h1), h2⟩
theorem vis_new {p : Addr} {o : HO} (hn : ¬ orS hid O p) (h : H p = some o) : rem (orS hid O) H p = some o := rem_some.mpr ⟨hn, h⟩
end

/-! ### what simulates what -/
section
variable (K : PySem.W.Frag)
def SE (te : TE) (m : En → Option D) : Prop := ∀ (hid O : AS) (B H : Hp) (σ : L2.St) (E : En) (d : D), RE K hid O B H σ E → m E = some d → ∀ Q : VK, (∀ v H', Ex H H' → Rp K (rem (orS hid O) H') v d → Q v H') → te σ H Q
def ST (te : TE) (m : En → Option D) : Prop := ∀ (hid O : AS) (B H : Hp) (σ : L2.St) (E : En) (d : D), RE K hid O B H σ E → m E = some d → ∀ Q : VK, (∀ v H', Ex H H' → Tv K hid O H' v d → Q v H') → te σ H Q
def SF (te : TE) (m : En → Option (List D)) : Prop := ∀ (hid O : AS) (B H : Hp) (σ : L2.St) (E : En) (ds : List D), RE K hid O B H σ E → m E = some ds → ∀ Q : VK,
  (∀ p xs H', H p = none → Ex H H' → H' p = some (.lst xs) → RpL K (rem (orS (orS hid O) (· = p)) H') xs ds → Q (.ref p) H') → te σ H Q
def SB (tt : TT) (m : En → Option Bool) : Prop := ∀ (hid O : AS) (B H : Hp) (σ : L2.St) (E : En) (b : Bool), RE K hid O B H σ E → m E = some b → ∀ Q : Bool → Hp → Prop, (∀ H', Ex H H' → Q b H') → tt σ H Q
def SA (ta : TA) (m : En → Option (List D)) : Prop := ∀ (hid O : AS) (B H : Hp) (σ : L2.St) (E : En) (ds : List D), RE K hid O B H σ E → m E = some ds → ∀ Q : List V → Hp → Prop, (∀ vs H', Ex H H' → RpL K (rem (orS hid O) H') vs ds → Q vs H') → ta σ H Q
/-- arguments that may name owned lists: told by what the whole heap shows -/
def SAT (ta : TA) (m : En → Option (List D)) : Prop := ∀ (hid O : AS) (B H : Hp) (σ : L2.St) (E : En) (ds : List D), RE K hid O B H σ E → m E = some ds → ∀ Q : List V → Hp → Prop, (∀ vs H', Ex H H' → RpL K H' vs ds → Q vs H') → ta σ H Q
def SO (to : TO) (m : En → Option (Option Int)) : Prop := ∀ (hid O : AS) (B H : Hp) (σ : L2.St) (E : En) (o : Option Int), RE K hid O B H σ E → m E = some o → ∀ Q : Option Int → Hp → Prop, (∀ H', Ex H H' → Q o H') → to σ H Q
/-- an operation by values -/
def OD (r : R2) (f : D → D → Option D) : Prop := ∀ (hid O : AS) (H : Hp) (x y : V) (a b d : D), Al hid O H → Tv K hid O H x a → Tv K hid O H y b → f a b = some d → ∀ Q : VK, (∀ v H', Ex H H' → Rp K (rem (orS hid O) H') v d → Q v H') → r x y H Q
end

/-! ### with the term of the layer; the canonical readings -/
section
variable (K : PySem.W.Frag)
def tE (m : En → Option D) : TE := fun σ H Q => ∃ (hid O : AS) (B : Hp) (E : En) (d : D), RE K hid O B H σ E ∧ m E = some d ∧ ∀ v H', Ex H H' → Rp K (rem (orS hid O) H') v d → Q v H'
def tT (m : En → Option D) : TE := fun σ H Q => ∃ (hid O : AS) (B : Hp) (E : En) (d : D), RE K hid O B H σ E ∧ m E = some d ∧ ∀ v H', Ex H H' → Tv K hid O H' v d → Q v H'
def tF (m : En → Option (List D)) : TE := fun σ H Q => ∃ (hid O : AS) (B : Hp) (E : En) (ds : List D), RE K hid O B H σ E ∧ m E = some ds ∧ ∀ p xs H', H p = none → Ex H H' → H' p = some (.lst xs) → RpL K (rem (orS (orS hid O) (· = p)) H') xs ds → Q (.ref p) H'
def tBq (m : En → Option Bool) : TT := fun σ H Q => ∃ (hid O : AS) (B : Hp) (E : En) (b : Bool), RE K hid O B H σ E ∧ m E = some b ∧ ∀ H', Ex H H' → Q b H'
def tAq (m : En → Option (List D)) : TA := fun σ H Q => ∃ (hid O : AS) (B : Hp) (E : En) (ds : List D), RE K hid O B H σ E ∧ m E = some ds ∧ ∀ vs H', Ex H H' → RpL K (rem (orS hid O) H') vs ds → Q vs H'
def tATq (m : En → Option (List D)) : TA := fun σ H Q => ∃ (hid O : AS) (B : Hp) (E : En) (ds : List D), RE K hid O B H σ E ∧ m E = some ds ∧ ∀ vs H', Ex H H' → RpL K H' vs ds → Q vs H'
def tOq (m : En → Option (Option Int)) : TO := fun σ H Q => ∃ (hid O : AS) (B : Hp) (E : En) (o : Option Int), RE K hid O B H σ E ∧ m E = some o ∧ ∀ H', Ex H H' → Q o H'
end
def DE (X : Cx) (e : Expr) (m : En → Option D) : Prop := ∃ te, PE X e te ∧ SE X.K te m
def DT (X : Cx) (e : Expr) (m : En → Option D) : Prop := ∃ te, PE X e te ∧ ST X.K te m
def DF (X : Cx) (e : Expr) (m : En → Option (List D)) : Prop := ∃ te, PE X e te ∧ SF X.K te m
def DB (X : Cx) (e : Expr) (m : En → Option Bool) : Prop := ∃ tt, PT X e tt ∧ SB X.K tt m
def DW (X : Cx) (e : Expr) (m : En → Option Bool) : Prop := ∃ tt, PW X e tt ∧ SB X.K tt m
def DA (X : Cx) (es : List Expr) (m : En → Option (List D)) : Prop := ∃ ta, PA X es ta ∧ SA X.K ta m
def DAT (X : Cx) (es : List Expr) (m : En → Option (List D)) : Prop := ∃ ta, PA X es ta ∧ SAT X.K ta m
def DO (X : Cx) (e : Option Expr) (m : En → Option (Option Int)) : Prop := ∃ to, PO X e to ∧ SO X.K to m
section
variable {X : Cx} {e : Expr} {es : List Expr} {oe : Option Expr} {m : En → Option D} {mf : En → Option (List D)} {mb : En → Option Bool} {mo : En → Option (Option Int)}
theorem DE.pe (h : DE X e m) : PE X e (tE X.K m) := by
  obtain ⟨te, p, s⟩ := h
  exact ⟨fun pins s0 σ H Q I h => p.run pins s0 σ H Q I (by obtain ⟨hid, O, B, E, d, r, hm, q⟩ := h; exact s hid O B H σ E d r hm Q q)⟩
theorem DE.si (h : DE X e m) : SE X.K (tE X.K m) m := fun hid O B H σ E d r hm Q q => ⟨hid, O, B, E, d, r, hm, q⟩
theorem DT.pe (h : DT X e m) : PE X e (tT X.K m) := by
  obtain ⟨te, p, s⟩ := h
  exact ⟨fun pins s0 σ H Q I h => p.run pins s0 σ H Q I (by obtain ⟨hid, O, B, E, d, r, hm, q⟩ := h; exact s hid O B H σ E d r hm Q q)⟩
theorem DT.si (h : DT X e m) : ST X.K (tT X.K m) m := fun hid O B H σ E d r hm Q q => ⟨hid, O, B, E, d, r, hm, q⟩
theorem DF.pe (h : DF X e mf) : PE X e (tF X.K mf) := by
  obtain ⟨te, p, s⟩ := h
  exact ⟨fun pins s0 σ H Q I h => p.run pins s0 σ H Q I (by obtain ⟨hid, O, B, E, d, r, hm, q⟩ := h; exact s hid O B H σ E d r hm Q q)⟩
theorem DF.si (h : DF X e mf) : SF X.K (tF X.K mf) mf := fun hid O B H σ E d r hm Q q => ⟨hid, O, B, E, d, r, hm, q⟩
theorem DB.pt (h : DB X e mb) : PT X e (tBq X.K mb) := by
  obtain ⟨te, p, s⟩ := h
  exact ⟨fun pins s0 σ H Q I h => p.run pins s0 σ H Q I (by obtain ⟨hid, O, B, E, d, r, hm, q⟩ := h; exact s hid O B H σ E d r hm Q q)⟩
theorem DB.si (h : DB X e mb) : SB X.K (tBq X.K mb) mb := fun hid O B H σ E d r hm Q q => ⟨hid, O, B, E, d, r, hm, q⟩
theorem DW.pw (h : DW X e mb) : PW X e (tBq X.K mb) := by
  obtain ⟨te, p, s⟩ := h
  exact ⟨fun w pins s0 σ H Q I h => p.run w pins s0 σ H Q I (by obtain ⟨hid, O, B, E, d, r, hm, q⟩ := h; exact s hid O B H σ E d r hm Q q)⟩
theorem DW.si (h : DW X e mb) : SB X.K (tBq X.K mb) mb := fun hid O B H σ E d r hm Q q => ⟨hid, O, B, E, d, r, hm, q⟩
theorem DA.pa (h : DA X es mf) : PA X es (tAq X.K mf) := by
  obtain ⟨te, p, s⟩ := h
  exact ⟨fun w pins s0 σ H Q I h => p.run w pins s0 σ H Q I (by obtain ⟨hid, O, B, E, d, r, hm, q⟩ := h; exact s hid O B H σ E d r hm Q q)⟩
theorem DA.si (h : DA X es mf) : SA X.K (tAq X.K mf) mf := fun hid O B H σ E d r hm Q q => ⟨hid, O, B, E, d, r, hm, q⟩
theorem DAT.pa (h : DAT X es mf) : PA X es (tATq X.K mf) := by
  obtain ⟨te, p, s⟩ := h
  exact ⟨fun w pins s0 σ H Q I h => p.run w pins s0 σ H Q I (by obtain ⟨hid, O, B, E, d, r, hm, q⟩ := h; exact s hid O B H σ E d r hm Q q)⟩
theorem DAT.si (h : DAT X es mf) : SAT X.K (tATq X.K mf) mf := fun hid O B H σ E d r hm Q q => ⟨hid, O, B, E, d, r, hm, q⟩
theorem DO.po (h : DO X oe mo) : PO X oe (tOq X.K mo) := by
  obtain ⟨te, p, s⟩ := h
  exact ⟨fun pins s0 σ H Q I h => p.run pins s0 σ H Q I (by obtain ⟨hid, O, B, E, d, r, hm, q⟩ := h; exact s hid O B H σ E d r hm Q q)⟩
theorem DO.si (h : DO X oe mo) : SO X.K (tOq X.K mo) mo := fun hid O B H σ E d r hm Q q => ⟨hid, O, B, E, d, r, hm, q⟩
end

/-! ### the mirrors -/
@[simp] def mVar (i : Nat) : En → Option D := fun E => match E[i]? with
  | some (.fz d) => some d
  | _ => none
@[simp] def mVarT (i : Nat) : En → Option D := fun E => match E[i]? with
  | some (.fz d) => some d
  | some (.ow ds) => some (.lst ds)
  | _ => none
@[simp] def mC (d : D) : En → Option D := fun _ => some d
@[simp] def mBin (f : D → D → Option D) (a b : En → Option D) : En → Option D := fun E => (a E).bind fun x => (b E).bind fun y => f x y
@[simp] def mUn (f : D → Option D) (a : En → Option D) : En → Option D := fun E => (a E).bind f
@[simp] def mList (a : En → Option (List D)) : En → Option D := fun E => (a E).map .lst
@[simp] def mTup (a : En → Option (List D)) : En → Option D := fun E => (a E).bind fun ds => if ds.length ≤ 100000 then some (.tup ds) else none
@[simp] def mNil : En → Option (List D) := fun _ => some []
@[simp] def mCons (a : En → Option D) (b : En → Option (List D)) : En → Option (List D) := fun E => (a E).bind fun x => (b E).map fun xs => x :: xs
@[simp] def mLst (a : En → Option (List D)) : En → Option (List D) := fun E => (a E).bind fun ds => if ds.length ≤ 100000 then some ds else none

theorem bind_some {α β : Type} {x : Option α} {f : α → Option β} {b : β} (h : x.bind f = some b) : ∃ a, x = some a ∧ f a = some b := by
  cases x with
  | none => cases h
  | some a => exact ⟨a, rfl, h⟩
theorem map_some {α β : Type} {x : Option α} {f : α → β} {b : β} (h : x.map f = some b) : ∃ a, x = some a ∧ f a = b := by
  cases x with
  | none => cases h
  | some a => exact ⟨a, rfl, Option.some.inj h⟩
theorem ite_some {α : Type} {c : Prop} [Decidable c] {x y : α} (h : (if c then some x else none) = some y) : c ∧ x = y := by
  by_cases hc : c
  · rw [if_pos hc] at h
    exact ⟨hc, Option.some.inj h⟩
  · rw [if_neg hc] at h
    cases h

section
variable {X : Cx} {e a b : Expr} {te ta tb : TE} {m ma mb : En → Option D}
theorem DE.t (h : DE X e m) : DT X e m := ⟨_, h.pe, fun hid O B H σ E d r hm Q q => h.si hid O B H σ E d r hm Q fun v H' e x => q v H' e (.inl x)⟩
theorem DF.toE {mf : En → Option (List D)} (h : DF X e mf) : DE X e (mList mf) := ⟨_, h.pe, fun hid O B H σ E d r hm Q q => by
  obtain ⟨ds, h1, rfl⟩ := map_some hm
  exact h.si hid O B H σ E ds r h1 Q fun p xs H' hp ex hx hr => q _ H' ex (.lst (vis_new (r.fresh hp) hx) (hr.mono (rem_sub fun a z => .inl z) ds))⟩
theorem DF.t {mf : En → Option (List D)} (h : DF X e mf) : DT X e (mList mf) := h.toE.t

/-! ### names, constants -/
theorem dt_var (i : Nat) {x : Str} {pos : Pos} (hN : X.N[i]? = some x := by rfl) (hv : Vis X.env.scope x := by first | exact Or.inl rfl | exact Or.inr (Or.inl rfl) | exact Or.inr (Or.inr rfl)) (hd : (x == ("__debug__" : Str)) = false := by decide)
    (hcd : (x == ("__classdict__" : Str)) = false := by decide) : DT X (.Name x pos) (mVarT i) := ⟨_, pe_var hN hv hd hcd, fun hid O B H σ E d r hm Q q => by
  unfold mVarT at hm
  split at hm
  · rename_i d' h
    cases hm
    obtain ⟨v, h1, h2⟩ := r.fz i d h
    exact ⟨v, h1, q v H (Ex.refl H) (.inl h2)⟩
  · rename_i ds h
    cases hm
    obtain ⟨p, xs, h1, h2, h3, h4⟩ := r.ow i ds h
    exact ⟨.ref p, h1, q _ H (Ex.refl H) (.inr ⟨p, xs, ds, rfl, rfl, h2, h3, h4⟩)⟩
  · cases hm⟩
theorem de_var (i : Nat) {x : Str} {pos : Pos} (hN : X.N[i]? = some x := by rfl) (hv : Vis X.env.scope x := by first | exact Or.inl rfl | exact Or.inr (Or.inl rfl) | exact Or.inr (Or.inr rfl)) (hd : (x == ("__debug__" : Str)) = false := by decide)
    (hcd : (x == ("__classdict__" : Str)) = false := by decide) : DE X (.Name x pos) (mVar i) := ⟨_, pe_var hN hv hd hcd, fun hid O B H σ E d r hm Q q => by
  unfold mVar at hm
  split at hm
  · rename_i d' h
    cases hm
    obtain ⟨v, h1, h2⟩ := r.fz i d h
    exact ⟨v, h1, q v H (Ex.refl H) h2⟩
  · cases hm⟩
theorem se_c {K : PySem.W.Frag} {v : V} {d : D} (h : ∀ H, Rp K H v d) : SE K (tC v) (mC d) := fun hid O B H σ E d' r hm Q q => by
  cases hm
  exact q v H (Ex.refl H) (h _)
theorem de_int {i j pos} : DE X (.Constant (.int i) j pos) (mC (.int i)) := ⟨_, pe_int, se_c fun _ => .int i⟩
theorem de_bl {b j pos} : DE X (.Constant (.bool b) j pos) (mC (.bl b)) := ⟨_, pe_bl, se_c fun _ => .bl b⟩
theorem de_non {j pos} : DE X (.Constant .none j pos) (mC .non) := ⟨_, pe_non, se_c fun _ => .non⟩
theorem de_str {x j pos} : DE X (.Constant (.str x) j pos) (mC (.str x)) := ⟨_, pe_str, se_c fun _ => .str x⟩

/-! ### two-place operations -/
theorem st_bin {K : PySem.W.Frag} {r : R2} {f : D → D → Option D} (o : OD K r f) (ha : ST K ta ma) (hb : ST K tb mb) : SE K (tOp r ta tb) (mBin f ma mb) := fun hid O B H σ E d re hm Q q => by
  obtain ⟨x, h1, hm⟩ := bind_some hm
  obtain ⟨y, h2, hm⟩ := bind_some hm
  refine ha hid O B H σ E x re h1 _ fun v H1 e1 r1 => ?_
  refine hb hid O B H1 σ E y (re.grow e1) h2 _ fun u H2 e2 r2 => ?_
  exact o hid O H2 v u x y d (al_of (re.grow (e1.trans e2))) (r1.mono e2) r2 hm Q fun w H3 e3 r3 => q w H3 ((e1.trans e2).trans e3) r3
theorem de_op {op : Operator} {r : R2} {f : D → D → Option D} {pos : Pos} (ho : OpR X (binaryOp op) r) (o : OD X.K r f) (ha : DT X a ma) (hb : DT X b mb) : DE X (.BinOp a op b pos) (mBin f ma mb) :=
  ⟨_, pe_op ho ha.pe hb.pe, st_bin o ha.si hb.si⟩
theorem OD.or {K : PySem.W.Frag} {r r' : R2} {f g h : D → D → Option D} (o : OD K r f) (o' : OD K r' g) (c : ∀ a b d, h a b = some d → f a b = some d ∨ g a b = some d) : OD K (fun x y H Q => r x y H Q ∨ r' x y H Q) h := fun hid O H x y a b d al ra rb hm Q q => by
  rcases c a b d hm with z | z
  · exact .inl (o hid O H x y a b d al ra rb z Q q)
  · exact .inr (o' hid O H x y a b d al ra rb z Q q)
@[simp] def intOp (g : Int → Int → D) : D → D → Option D
  | .int i, .int j => some (g i j)
  | _, _ => none
@[simp] def intOpC (c : Int → Int → Bool) (g : Int → Int → D) : D → D → Option D
  | .int i, .int j => if c i j = true then some (g i j) else none
  | _, _ => none
theorem intOp_some {g : Int → Int → D} {a b d : D} (h : intOp g a b = some d) : ∃ i j, a = .int i ∧ b = .int j ∧ g i j = d := by
  unfold intOp at h
  split at h
  · exact ⟨_, _, rfl, rfl, Option.some.inj h⟩
  · cases h
theorem intOpC_some {c : Int → Int → Bool} {g : Int → Int → D} {a b d : D} (h : intOpC c g a b = some d) : ∃ i j, a = .int i ∧ b = .int j ∧ c i j = true ∧ g i j = d := by
  unfold intOpC at h
  split at h
  · obtain ⟨h1, h2⟩ := ite_some h
    exact ⟨_, _, rfl, rfl, h1, h2⟩
  · cases h
theorem od_I0 {K : PySem.W.Frag} {g : Int → Int → V} {f : Int → Int → D} (h : ∀ i j H, Rp K H (g i j) (f i j)) : OD K (rI0 g) (intOp f) := fun hid O H x y a b d al ra rb hm Q q => by
  obtain ⟨i, j, rfl, rfl, rfl⟩ := intOp_some hm
  exact ⟨i, j, ra.int, rb.int, q _ H (Ex.refl H) (h i j _)⟩
theorem od_I {K : PySem.W.Frag} {C : Int → Int → Prop} {c : Int → Int → Bool} {g : Int → Int → V} {f : Int → Int → D} (hc : ∀ i j, c i j = true → C i j) (h : ∀ i j H, Rp K H (g i j) (f i j)) : OD K (rI C g) (intOpC c f) := fun hid O H x y a b d al ra rb hm Q q => by
  obtain ⟨i, j, rfl, rfl, z, rfl⟩ := intOpC_some hm
  exact ⟨i, j, ra.int, rb.int, hc i j z, q _ H (Ex.refl H) (h i j _)⟩
@[simp] def addD : D → D → Option D
  | .int i, .int j => some (.int (i + j))
  | .str a, .str b => if a.length + b.length ≤ 100000 then some (.str (a ++ b)) else none
  | .lst a, .lst b => if a.length + b.length ≤ 100000 then some (.lst (a ++ b)) else none
  | .tup a, .tup b => if a.length + b.length ≤ 100000 then some (.tup (a ++ b)) else none
  | _, _ => none
@[simp] def catD : D → D → Option (List D)
  | .lst a, .lst b => if a.length + b.length ≤ 100000 then some (a ++ b) else none
  | _, _ => none
theorem catD_some {a b : D} {ds : List D} (h : catD a b = some ds) : ∃ x y, a = .lst x ∧ b = .lst y ∧ x.length + y.length ≤ 100000 ∧ x ++ y = ds := by
  unfold catD at h
  split at h
  · obtain ⟨h1, h2⟩ := ite_some h
    exact ⟨_, _, rfl, rfl, h1, h2⟩
  · cases h
theorem size_le {n : Nat} (h : n ≤ 100000) : n ≤ sizeLine := Nat.le_trans h (by decide)
theorem size_lt {n : Nat} (h : n < 100000) : n < sizeLine := Nat.lt_of_lt_of_le h (by decide)
abbrev rAddS : R2 := fun x y H Q => ∃ i j, x = .str i ∧ y = .str j ∧ i.length + j.length ≤ sizeLine ∧ Q (.str (i ++ j)) H
abbrev rAddAll (K : PySem.W.Frag) : R2 := fun x y H Q => rI0 (fun i j => .int (i + j)) x y H Q ∨ (rAddS x y H Q ∨ (rCat x y H Q ∨ rCatA K x y H Q))
theorem op_addAll : OpR X (binaryOp .Add) (rAddAll X.K) := OpR.or op_add (OpR.or op_add_str (OpR.or op_cat op_catA))
theorem od_add {K : PySem.W.Frag} : OD K (rAddAll K) addD := fun hid O H x y a b d al ra rb hm Q q => by
  unfold addD at hm
  split at hm
  · cases hm
    exact .inl ⟨_, _, ra.int, rb.int, q _ H (Ex.refl H) (.int _)⟩
  · obtain ⟨h1, rfl⟩ := ite_some hm
    exact .inr (.inl ⟨_, _, ra.str, rb.str, size_le h1, q _ H (Ex.refl H) (.str _)⟩)
  · obtain ⟨h1, rfl⟩ := ite_some hm
    obtain ⟨p, xs, rfl, p1, p2⟩ := ra.lst
    obtain ⟨p', ys, rfl, p1', p2'⟩ := rb.lst
    refine .inr (.inr (.inl ⟨p, p', xs, ys, rfl, rfl, p1, p1', by rw [p2.length, p2'.length]; exact size_le h1, fun l hl => ?_⟩))
    have ex : Ex H (upd H l (.lst (xs ++ ys))) := Ex.new hl
    exact q _ _ ex (.lst (vis_new (al l hl) upd_same) ((p2.app p2').mono (rem_mono ex) _))
  · obtain ⟨h1, rfl⟩ := ite_some hm
    obtain ⟨p, xs, rfl, p1, p2⟩ := ra.tup
    obtain ⟨p', ys, rfl, p1', p2'⟩ := rb.tup
    refine .inr (.inr (.inr ⟨p, p', xs, ys, rfl, rfl, Evl.ex_t rem_ex p1, Evl.ex_t rem_ex p1', by rw [p2.length, p2'.length]; exact size_le h1, fun z => ?_, fun z1 z2 => ?_, fun z1 z2 l hl => ?_⟩))
    · subst z
      cases p2
      exact q _ H (Ex.refl H) (.tup p1' p2')
    · subst z2
      cases p2'
      rw [List.append_nil] at q
      exact q _ H (Ex.refl H) (.tup p1 p2)
    · have ex : Ex H (upd H l (.tup (xs ++ ys))) := Ex.new hl
      exact q _ _ ex (.tup (Evl.st_of (vis_new (al l hl) upd_same)) ((p2.app p2').mono (rem_mono ex) _))
  · cases hm
theorem de_add {pos : Pos} (ha : DT X a ma) (hb : DT X b mb) : DE X (.BinOp a .Add b pos) (mBin addD ma mb) := de_op op_addAll od_add ha hb
theorem df_add {pos : Pos} (ha : DT X a ma) (hb : DT X b mb) : DF X (.BinOp a .Add b pos) (fun E => (ma E).bind fun x => (mb E).bind fun y => catD x y) := ⟨_, pe_op op_cat ha.pe hb.pe, fun hid O B H σ E ds re hm Q q => by
  obtain ⟨x, h1, hm⟩ := bind_some hm
  obtain ⟨y, h2, hm⟩ := bind_some hm
  obtain ⟨as, bs, rfl, rfl, h3, rfl⟩ := catD_some hm
  refine ha.si hid O B H σ E _ re h1 _ fun v H1 e1 r1 => ?_
  refine hb.si hid O B H1 σ E _ (re.grow e1) h2 _ fun u H2 e2 r2 => ?_
  obtain ⟨p, xs, rfl, p1, p2⟩ := (r1.mono e2).lst
  obtain ⟨p', ys, rfl, p1', p2'⟩ := r2.lst
  refine ⟨p, p', xs, ys, rfl, rfl, p1, p1', by rw [p2.length, p2'.length]; exact size_le h3, fun l hl => ?_⟩
  have ex : Ex H2 (upd H2 l (.lst (xs ++ ys))) := Ex.new hl
  exact q l _ _ (Evl.fresh_back (e1.trans e2) hl) ((e1.trans e2).trans ex) upd_same ((p2.app p2').mono (rem_new hl ex) _)⟩
theorem de_sub {pos : Pos} (ha : DT X a ma) (hb : DT X b mb) : DE X (.BinOp a .Sub b pos) (mBin (intOp fun i j => .int (i - j)) ma mb) := de_op op_sub (od_I0 fun i j _ => .int _) ha hb
def mulOk (i j : Int) : Bool := decide (i.natAbs < 2 ^ 64) || decide (j.natAbs < 2 ^ 64)
theorem mulOk_C {i j : Int} (h : mulOk i j = true) : CMul i j := by
  unfold mulOk at h
  rcases Bool.or_eq_true_iff.mp h with h | h
  · have h := of_decide_eq_true h
    exact .inl (by omega)
  · have h := of_decide_eq_true h
    exact .inr (by omega)
theorem de_mul {pos : Pos} (ha : DT X a ma) (hb : DT X b mb) : DE X (.BinOp a .Mult b pos) (mBin (intOpC mulOk fun i j => .int (i * j)) ma mb) := de_op op_mul (od_I (fun _ _ => mulOk_C) fun i j _ => .int _) ha hb
def divOk (_ j : Int) : Bool := decide (0 < j) && decide (j < 1073741824)
theorem de_fdiv {pos : Pos} (ha : DT X a ma) (hb : DT X b mb) : DE X (.BinOp a .FloorDiv b pos) (mBin (intOpC divOk fun i j => .int (i / j)) ma mb) :=
  de_op op_fdiv (od_I (fun i j h => by
    unfold divOk at h
    obtain ⟨h1, h2⟩ := Bool.and_eq_true_iff.mp h
    exact ⟨of_decide_eq_true h1, of_decide_eq_true h2⟩) fun i j _ => .int _) ha hb
theorem de_mod {pos : Pos} (ha : DT X a ma) (hb : DT X b mb) : DE X (.BinOp a .Mod b pos) (mBin (intOpC (fun _ j => decide (0 < j)) fun i j => .int (i % j)) ma mb) :=
  de_op op_mod (od_I (fun i j h => of_decide_eq_true h) fun i j _ => .int _) ha hb
def powOk (i j : Int) : Bool := decide (0 ≤ j) && decide (j ≤ 1000000) && decide (i.natAbs < 2 ^ 64)
theorem de_pow {pos : Pos} (ha : DT X a ma) (hb : DT X b mb) : DE X (.BinOp a .Pow b pos) (mBin (intOpC powOk fun i j => .int (i ^ j.toNat)) ma mb) :=
  de_op op_pow (od_I (fun i j h => by
    unfold powOk at h
    obtain ⟨h0, h3⟩ := Bool.and_eq_true_iff.mp h
    obtain ⟨h1, h2⟩ := Bool.and_eq_true_iff.mp h0
    exact ⟨of_decide_eq_true h1, of_decide_eq_true h2, of_decide_eq_true h3⟩) fun i j _ => .int _) ha hb
/-- a list times an int -/
@[simp] def repD : D → D → Option (List D)
  | .lst a, .int k => if k ≤ 100000 ∧ a.length * k.toNat ≤ 100000 ∧ -100000 ≤ k then some (List.replicate k.toNat a).flatten else none
  | _, _ => none
theorem repD_some {a b : D} {ds : List D} (h : repD a b = some ds) : ∃ x k, a = .lst x ∧ b = .int k ∧ k ≤ 100000 ∧ x.length * k.toNat ≤ 100000 ∧ -100000 ≤ k ∧ (List.replicate k.toNat x).flatten = ds := by
  unfold repD at h
  split at h
  · obtain ⟨⟨h1, h2, h3⟩, h4⟩ := ite_some h
    exact ⟨_, _, rfl, rfl, h1, h2, h3, h4⟩
  · cases h
theorem df_rep {pos : Pos} (ha : DT X a ma) (hb : DT X b mb) : DF X (.BinOp a .Mult b pos) (fun E => (ma E).bind fun x => (mb E).bind fun y => repD x y) := ⟨_, pe_op op_rep ha.pe hb.pe, fun hid O B H σ E ds re hm Q q => by
  obtain ⟨x, h1, hm⟩ := bind_some hm
  obtain ⟨y, h2, hm⟩ := bind_some hm
  obtain ⟨as, k, rfl, rfl, h3, h4, h5, rfl⟩ := repD_some hm
  · refine ha.si hid O B H σ E _ re h1 _ fun v H1 e1 r1 => ?_
    refine hb.si hid O B H1 σ E _ (re.grow e1) h2 _ fun u H2 e2 r2 => ?_
    obtain ⟨p, xs, rfl, p1, p2⟩ := (r1.mono e2).lst
    obtain rfl := r2.int
    refine ⟨p, k, xs, rfl, rfl, p1, by omega, by omega, by rw [p2.length]; exact size_le h4, fun l hl => ?_⟩
    have ex : Ex H2 (upd H2 l (.lst (List.replicate k.toNat xs).flatten)) := Ex.new hl
    exact q l _ _ (Evl.fresh_back (e1.trans e2) hl) ((e1.trans e2).trans ex) upd_same ((RpL.rep k.toNat p2).mono (rem_new hl ex) _)⟩
/-- - x -/
@[simp] def negD : D → Option D
  | .int i => some (.int (-i))
  | _ => none
theorem de_neg {pos : Pos} (ha : DT X a ma) : DE X (.UnaryOp .USub a pos) (mUn negD ma) := ⟨_, pe_un un_neg ha.pe, fun hid O B H σ E d re hm Q q => by
  obtain ⟨x, h1, hm⟩ := bind_some hm
  unfold negD at hm
  split at hm
  · cases hm
    refine ha.si hid O B H σ E _ re h1 _ fun v H1 e1 r1 => ?_
    exact ⟨_, r1.int, q _ H1 e1 (.int _)⟩
  · cases hm⟩

/-! ### comparisons -/
def bI (g : Int → Int → Bool) : Int → Int → D := fun i j => .bl (g i j)
theorem od_lt {K : PySem.W.Frag} : OD K (rI0 fun i j => .bl (decide (i < j))) (intOp fun i j => .bl (decide (i < j))) := od_I0 fun i j _ => .bl _
theorem od_le {K : PySem.W.Frag} : OD K (rI0 fun i j => .bl (decide (i ≤ j))) (intOp fun i j => .bl (decide (i ≤ j))) := od_I0 fun i j _ => .bl _
theorem od_gt {K : PySem.W.Frag} : OD K (rI0 fun i j => .bl (decide (j < i))) (intOp fun i j => .bl (decide (j < i))) := od_I0 fun i j _ => .bl _
theorem od_ge {K : PySem.W.Frag} : OD K (rI0 fun i j => .bl (decide (j ≤ i))) (intOp fun i j => .bl (decide (j ≤ i))) := od_I0 fun i j _ => .bl _
mutual
def D.py : D → PyData
  | .non => .none
  | .bl b => .bool b
  | .int i => .int i
  | .str x => .str x
  | .lst xs => .list (D.pys xs)
  | .tup xs => .tuple (D.pys xs)
  | .scr ns => .list (ns.map .int)
def D.pys : List D → List PyData
  | [] => []
  | d :: ds => D.py d :: D.pys ds
end
section
variable {K : PySem.W.Frag} {H : Hp}
theorem dp_ints : ∀ (ns : List Int), DpAll K H (ns.map V.int) (ns.map PyData.int)
  | [] => .nil
  | n :: ns => .cons (.int n) (dp_ints ns)
mutual
theorem Rp.dp : ∀ (d : D) {v : V}, Rp K H v d → Dp K H v d.py
  | .non, _, h => by cases h; exact .non
  | .bl b, _, h => by cases h; exact .bl b
  | .int i, _, h => by cases h; exact .int i
  | .str x, _, h => by cases h; exact .str x
  | .lst ds, _, h => by
    cases h with
    | lst h1 h2 =>
      rw [D.py]
      exact .lst (.inl (.inl h1)) (RpL.dp ds h2)
  | .tup ds, _, h => by
    cases h with
    | tup h1 h2 =>
      rw [D.py]
      exact .tup h1 (RpL.dp ds h2)
  | .scr ns, _, h => by
    cases h with
    | scr h1 =>
      rw [D.py]
      exact .lst h1 (dp_ints ns)
theorem RpL.dp : ∀ (ds : List D) {vs : List V}, RpL K H vs ds → DpAll K H vs (D.pys ds)
  | [], _, h => by
    cases h
    rw [D.pys]
    exact .nil
  | d :: ds, _, h => by
    cases h with
    | cons h1 h2 =>
      rw [D.pys]
      exact .cons (Rp.dp d h1) (RpL.dp ds h2)
end
end
@[simp] def eqB : D → D → Option Bool
  | .int i, .int j => some (decide (i = j))
  | .str i, .str j => some (decide (i = j))
  | .bl i, .bl j => some (decide (i = j))
  | .non, .non => some true
  | .non, .int _ => some false
  | .int _, .non => some false
  | a, b => if SeqAt.shaped a.py = true ∧ SeqAt.shaped b.py = true then some (PyData.eqv a.py b.py) else none
@[simp] def eqD (a b : D) : Option D := (eqB a b).map .bl
@[simp] def neD (a b : D) : Option D := (eqB a b).map fun c => .bl (!c)
abbrev rEqAll (K : PySem.W.Frag) : R2 := fun x y H Q => rEq x y H Q ∨ rEqD K x y H Q
abbrev rNeAll (K : PySem.W.Frag) : R2 := fun x y H Q => rNe x y H Q ∨ rNeD K x y H Q
theorem eq_cases {K : PySem.W.Frag} {hid O : AS} {H : Hp} {x y : V} {a b : D} {c : Bool} (ra : Tv K hid O H x a) (rb : Tv K hid O H y b) (h : eqB a b = some c) :
    (scal x y = true ∧ decide (x = y) = c) ∨ (Dp K H x a.py ∧ Dp K H y b.py ∧ SeqAt.shaped a.py = true ∧ SeqAt.shaped b.py = true ∧ PyData.eqv a.py b.py = c) := by
  unfold eqB at h
  split at h
  · obtain rfl := ra.int; obtain rfl := rb.int
    refine .inl ⟨rfl, ?_⟩
    rw [← Option.some.inj h]
    simp only [V.int.injEq]
  · obtain rfl := ra.str; obtain rfl := rb.str
    refine .inl ⟨rfl, ?_⟩
    rw [← Option.some.inj h]
    simp only [V.str.injEq]
  · obtain rfl := ra.bl; obtain rfl := rb.bl
    refine .inl ⟨rfl, ?_⟩
    rw [← Option.some.inj h]
    simp only [V.bl.injEq]
  · obtain rfl := ra.non; obtain rfl := rb.non
    exact .inl ⟨rfl, Option.some.inj h⟩
  · obtain rfl := ra.non; obtain rfl := rb.int
    exact .inl ⟨rfl, Option.some.inj h⟩
  · obtain rfl := ra.int; obtain rfl := rb.non
    exact .inl ⟨rfl, Option.some.inj h⟩
  · obtain ⟨⟨h1, h2⟩, h3⟩ := ite_some h
    exact .inr ⟨Rp.dp _ ra.full, Rp.dp _ rb.full, h1, h2, h3⟩
theorem od_eq {K : PySem.W.Frag} : OD K (rEqAll K) eqD := fun hid O H x y a b d al ra rb hm Q q => by
  obtain ⟨c, h, rfl⟩ := map_some hm
  rcases eq_cases ra rb h with ⟨h1, h2⟩ | ⟨h1, h2, h3, h4, h5⟩
  · refine .inl ⟨h1, ?_⟩
    rw [h2]
    exact q _ H (Ex.refl H) (.bl c)
  · refine .inr ⟨_, _, h1, h2, h3, h4, ?_⟩
    rw [h5]
    exact q _ H (Ex.refl H) (.bl c)
theorem od_ne {K : PySem.W.Frag} : OD K (rNeAll K) neD := fun hid O H x y a b d al ra rb hm Q q => by
  obtain ⟨c, h, rfl⟩ := map_some hm
  rcases eq_cases ra rb h with ⟨h1, h2⟩ | ⟨h1, h2, h3, h4, h5⟩
  · refine .inl ⟨h1, ?_⟩
    rw [h2]
    exact q _ H (Ex.refl H) (.bl _)
  · refine .inr ⟨_, _, h1, h2, h3, h4, ?_⟩
    rw [h5]
    exact q _ H (Ex.refl H) (.bl _)
theorem op_eqAll {k : Nat} {A : Around} (hr : Room k A) (hA : X.A = A := by rfl) : OpR X (compareOp .Eq) (rEqAll X.K) := OpR.or op_eq (op_eqD (by rw [hA]; exact hr.units))
theorem op_neAll {k : Nat} {A : Around} (hr : Room k A) (hA : X.A = A := by rfl) : OpR X (compareOp .NotEq) (rNeAll X.K) := OpR.or op_ne (op_neD (by rw [hA]; exact hr.units))
theorem de_cmp {op : CmpOp} {r : R2} {f : D → D → Option D} {pos : Pos} (ho : OpR X (compareOp op) r) (o : OD X.K r f) (ha : DT X a ma) (hb : DT X b mb) (hm : behindInMarks op b = false := by first | exact nomark _ | with_unfolding_all rfl) :
    DE X (.Compare a [op] [b] pos) (mBin f ma mb) := ⟨_, pe_cmpR ho ha.pe hb.pe hm, st_bin o ha.si hb.si⟩
@[simp] def blOf : D → Option Bool
  | .bl b => some b
  | _ => none
theorem blOf_some {d : D} {b : Bool} (h : blOf d = some b) : d = .bl b := by
  unfold blOf at h
  split at h
  · cases h; rfl
  · cases h
theorem db_cmp {op : CmpOp} {r : R2} {f : D → D → Option D} {pos : Pos} (ho : OpR X (compareOp op) r) (o : OD X.K r f) (ha : DT X a ma) (hb : DT X b mb) (hm : behindInMarks op b = false := by first | exact nomark _ | with_unfolding_all rfl) :
    DB X (.Compare a [op] [b] pos) (fun E => (mBin f ma mb E).bind blOf) := ⟨_, pt_cmpR ho ha.pe hb.pe hm, fun hid O B H σ E c re hm Q q => by
  obtain ⟨x, h1, hm⟩ := bind_some hm
  cases blOf_some hm
  exact st_bin o ha.si hb.si hid O B H σ E _ re h1 _ fun v H1 e1 r1 => by
    cases r1
    exact ⟨c, rfl, q H1 e1⟩⟩
/-- a op b op c -/
@[simp] def mChain (f g : D → D → Option D) (a b c : En → Option D) : En → Option D := fun E => (a E).bind fun x => (b E).bind fun y => (f x y).bind fun z => match z with
  | .bl true => (c E).bind fun w => g y w
  | .bl false => some (.bl false)
  | _ => none
theorem st_chain {K : PySem.W.Frag} {r r' : R2} {f g : D → D → Option D} {tc : TE} {mc : En → Option D} (o : OD K r f) (o' : OD K r' g) (ha : ST K ta ma) (hb : ST K tb mb) (hc : ST K tc mc) : SE K (tChain r r' ta tb tc) (mChain f g ma mb mc) := fun hid O B H σ E d re hm Q q => by
  obtain ⟨x, h1, hm⟩ := bind_some hm
  obtain ⟨y, h2, hm⟩ := bind_some hm
  obtain ⟨z, h3, hm⟩ := bind_some hm
  refine ha hid O B H σ E x re h1 _ fun v H1 e1 r1 => ?_
  refine hb hid O B H1 σ E y (re.grow e1) h2 _ fun u H2 e2 r2 => ?_
  refine o hid O H2 v u x y z (al_of (re.grow (e1.trans e2))) (r1.mono e2) r2 h3 _ fun w H3 e3 r3 => ?_
  have e123 := (e1.trans e2).trans e3
  split at hm
  · cases r3
    refine ⟨true, rfl, ?_⟩
    rw [if_pos rfl]
    obtain ⟨w', h4, hm⟩ := bind_some hm
    refine hc hid O B H3 σ E w' (re.grow e123) h4 _ fun u4 H4 e4 r4 => ?_
    exact o' hid O H4 u u4 y w' d (al_of (re.grow (e123.trans e4))) ((r2.mono e3).mono e4) r4 hm Q fun w5 H5 e5 r5 => q w5 H5 ((e123.trans e4).trans e5) r5
  · cases r3
    cases hm
    refine ⟨false, rfl, ?_⟩
    rw [if_neg Bool.false_ne_true]
    exact q _ H3 e123 (.bl false)
  · cases hm
theorem de_chain {op op' : CmpOp} {r r' : R2} {f g : D → D → Option D} {c : Expr} {mc : En → Option D} {pos : Pos} (ho : OpR X (compareOp op) r) (o : OD X.K r f) (ho' : OpR X (compareOp op') r') (o' : OD X.K r' g) (ha : DT X a ma) (hb : DT X b mb) (hc : DT X c mc)
    (hm : lastMarks [op, op'] [b, c] = false := by with_unfolding_all rfl) : DE X (.Compare a [op, op'] [b, c] pos) (mChain f g ma mb mc) := ⟨_, pe_chain ho ho' ha.pe hb.pe hc.pe hm, st_chain o o' ha.si hb.si hc.si⟩
theorem db_chain {op op' : CmpOp} {r r' : R2} {f g : D → D → Option D} {c : Expr} {mc : En → Option D} {pos : Pos} (ho : OpR X (compareOp op) r) (o : OD X.K r f) (ho' : OpR X (compareOp op') r') (o' : OD X.K r' g) (ha : DT X a ma) (hb : DT X b mb) (hc : DT X c mc)
    (hm : lastMarks [op, op'] [b, c] = false := by with_unfolding_all rfl) : DB X (.Compare a [op, op'] [b, c] pos) (fun E => (mChain f g ma mb mc E).bind blOf) := ⟨_, pt_chain ho ho' ha.pe hb.pe hc.pe hm, fun hid O B H σ E c re hm Q q => by
  obtain ⟨x, h1, hm⟩ := bind_some hm
  cases blOf_some hm
  exact st_chain o o' ha.si hb.si hc.si hid O B H σ E _ re h1 _ fun v H1 e1 r1 => by
    cases r1
    exact ⟨c, rfl, q H1 e1⟩⟩
/-- is None, is not None -/
@[simp] def isN : D → Bool
  | .non => true
  | _ => false
theorem isN_ok {K : PySem.W.Frag} {hid O : AS} {H : Hp} {v : V} {d : D} (h : Tv K hid O H v d) : decide (v = .non) = isN d := by
  rcases h with h | ⟨p, xs, ds, rfl, rfl, _⟩
  · cases h <;> rfl
  · rfl
theorem de_isN {j pos' pos} (ha : DT X a ma) : DE X (.Compare a [.Is] [.Constant .none j pos'] pos) (mUn (fun d => some (.bl (isN d))) ma) := ⟨_, pe_cmp (pc_isN ha.pe), fun hid O B H σ E d re hm Q q => by
  obtain ⟨x, h1, hm⟩ := bind_some hm
  cases hm
  refine ha.si hid O B H σ E x re h1 _ fun v H1 e1 r1 => ?_
  rw [isN_ok r1]
  exact q _ H1 e1 (.bl _)⟩
theorem de_notN {j pos' pos} (ha : DT X a ma) : DE X (.Compare a [.IsNot] [.Constant .none j pos'] pos) (mUn (fun d => some (.bl (!isN d))) ma) := ⟨_, pe_cmp (pc_notN ha.pe), fun hid O B H σ E d re hm Q q => by
  obtain ⟨x, h1, hm⟩ := bind_some hm
  cases hm
  refine ha.si hid O B H σ E x re h1 _ fun v H1 e1 r1 => ?_
  rw [isN_ok r1]
  exact q _ H1 e1 (.bl _)⟩
theorem db_isN {j pos' pos} (ha : DT X a ma) : DB X (.Compare a [.Is] [.Constant .none j pos'] pos) (fun E => (ma E).map isN) := ⟨_, pt_cmp (pc_isN ha.pe), fun hid O B H σ E d re hm Q q => by
  obtain ⟨x, h1, rfl⟩ := map_some hm
  refine ha.si hid O B H σ E x re h1 _ fun v H1 e1 r1 => ?_
  rw [isN_ok r1]
  exact ⟨_, rfl, q H1 e1⟩⟩
theorem db_notN {j pos' pos} (ha : DT X a ma) : DB X (.Compare a [.IsNot] [.Constant .none j pos'] pos) (fun E => (ma E).map fun d => !isN d) := ⟨_, pt_cmp (pc_notN ha.pe), fun hid O B H σ E d re hm Q q => by
  obtain ⟨x, h1, rfl⟩ := map_some hm
  refine ha.si hid O B H σ E x re h1 _ fun v H1 e1 r1 => ?_
  rw [isN_ok r1]
  exact ⟨_, rfl, q H1 e1⟩⟩

/-! ### truth -/
@[simp] def truD : D → Option Bool
  | .non => some false
  | .bl b => some b
  | .int i => some (i != 0)
  | .str x => if x.length ≤ 100000 then some ((x.length : Int) != 0) else none
  | .lst ds => some (!ds.isEmpty)
  | .tup ds => some (!ds.isEmpty)
  | .scr ns => some (!ns.isEmpty)
theorem isEmpty_rp {K : PySem.W.Frag} {H : Hp} {vs : List V} {ds : List D} (h : RpL K H vs ds) : (!vs.isEmpty) = !ds.isEmpty := by
  cases h <;> rfl
theorem truD_ok {K : PySem.W.Frag} {hid O : AS} {H : Hp} {v : V} {d : D} {b : Bool} (h : Tv K hid O H v d) (hb : truD d = some b) : TruV K v H b := by
  cases d with
  | non => obtain rfl := h.non; exact (Option.some.inj hb).symm
  | bl c => obtain rfl := h.bl; exact (Option.some.inj hb).symm
  | int i => obtain rfl := h.int; exact (Option.some.inj hb).symm
  | str x =>
    obtain rfl := h.str
    unfold truD at hb
    obtain ⟨h1, h2⟩ := ite_some hb
    exact ⟨size_le h1, h2.symm⟩
  | lst ds =>
    obtain ⟨p, xs, rfl, h1, h2⟩ := h.lst
    exact .inl ⟨xs, .inl (.inl h1), by rw [isEmpty_rp h2]; exact (Option.some.inj hb).symm⟩
  | tup ds =>
    obtain ⟨p, xs, rfl, h1, h2⟩ := h.tup
    exact .inr (.inl ⟨xs, Evl.ex_t rem_ex h1, by rw [isEmpty_rp h2]; exact (Option.some.inj hb).symm⟩)
  | scr ns =>
    obtain ⟨p, rfl, h1⟩ := h.scr
    refine .inl ⟨_, h1, ?_⟩
    rw [← Option.some.inj hb]
    cases ns <;> rfl
/-- any expression whose test is its value's truth -/
theorem db_tru (ha : DT X a ma) (he : ∀ whole, isTrue a X.env whole = (do let v ← whole; standAt a.pos; holding [v] (truthy v)) := by intro _; rfl) : DB X a (fun E => (ma E).bind truD) := ⟨_, pt_truth ha.pe he, fun hid O B H σ E b re hm Q q => by
  obtain ⟨x, h1, hm⟩ := bind_some hm
  exact ha.si hid O B H σ E x re h1 _ fun v H1 e1 r1 => ⟨b, truD_ok r1 hm, q H1 e1⟩⟩
@[simp] def mNot (a : En → Option Bool) : En → Option Bool := fun E => (a E).map (!·)
@[simp] def mAnd (a b : En → Option Bool) : En → Option Bool := fun E => (a E).bind fun x => if x = true then b E else some false
@[simp] def mOr (a b : En → Option Bool) : En → Option Bool := fun E => (a E).bind fun x => if x = true then some true else b E
theorem db_not {m : En → Option Bool} {pos : Pos} (ha : DB X a m) : DB X (.UnaryOp .Not a pos) (mNot m) := ⟨_, pt_not ha.pt, fun hid O B H σ E b re hm Q q => by
  obtain ⟨x, h1, rfl⟩ := map_some hm
  exact ha.si hid O B H σ E x re h1 _ fun H1 e1 => q H1 e1⟩
theorem dw_and1 {m : En → Option Bool} {pos : Pos} (ha : DB X a m) : DW X (.BoolOp .And [a] pos) m := ⟨_, pw_and1 ha.pt, ha.si⟩
theorem dw_or1 {m : En → Option Bool} {pos : Pos} (ha : DB X a m) : DW X (.BoolOp .Or [a] pos) m := ⟨_, pw_or1 ha.pt, ha.si⟩
theorem dw_and {m n : En → Option Bool} {pos : Pos} {rest : List Expr} (ha : DB X a m) (hb : DW X (.BoolOp .And (b :: rest) pos) n) : DW X (.BoolOp .And (a :: b :: rest) pos) (mAnd m n) := ⟨_, pw_and ha.pt hb.pw, fun hid O B H σ E c re hm Q q => by
  obtain ⟨x, h1, hm⟩ := bind_some hm
  refine ha.si hid O B H σ E x re h1 _ fun H1 e1 => ?_
  cases x with
  | true =>
    rw [if_pos rfl] at hm ⊢
    exact hb.si hid O B H1 σ E c (re.grow e1) hm Q fun H2 e2 => q H2 (e1.trans e2)
  | false =>
    rw [if_neg Bool.false_ne_true] at hm ⊢
    cases hm
    exact q H1 e1⟩
theorem dw_or {m n : En → Option Bool} {pos : Pos} {rest : List Expr} (ha : DB X a m) (hb : DW X (.BoolOp .Or (b :: rest) pos) n) : DW X (.BoolOp .Or (a :: b :: rest) pos) (mOr m n) := ⟨_, pw_or ha.pt hb.pw, fun hid O B H σ E c re hm Q q => by
  obtain ⟨x, h1, hm⟩ := bind_some hm
  refine ha.si hid O B H σ E x re h1 _ fun H1 e1 => ?_
  cases x with
  | true =>
    rw [if_pos rfl] at hm ⊢
    cases hm
    exact q H1 e1
  | false =>
    rw [if_neg Bool.false_ne_true] at hm ⊢
    exact hb.si hid O B H1 σ E c (re.grow e1) hm Q fun H2 e2 => q H2 (e1.trans e2)⟩
theorem DW.toB {m : En → Option Bool} (h : DW X e m) : DB X e m := ⟨_, h.pw.pt, h.si⟩
/-- and, or, not as values -/
@[simp] def mAndV (a b : En → Option D) : En → Option D := fun E => (a E).bind fun x => (truD x).bind fun k => if k = true then b E else some x
@[simp] def mOrV (a b : En → Option D) : En → Option D := fun E => (a E).bind fun x => (truD x).bind fun k => if k = true then some x else b E
theorem de_one {op} {pos : Pos} (h : DE X a ma) : DE X (.BoolOp op [a] pos) ma := ⟨_, pe_one h.pe, h.si⟩
theorem de_and {pos : Pos} {rest : List Expr} (ha : DE X a ma) (hb : DE X (.BoolOp .And (b :: rest) pos) mb) : DE X (.BoolOp .And (a :: b :: rest) pos) (mAndV ma mb) := ⟨_, pe_andT ha.pe hb.pe, fun hid O B H σ E d re hm Q q => by
  obtain ⟨x, h1, hm⟩ := bind_some hm
  obtain ⟨k, h2, hm⟩ := bind_some hm
  refine ha.si hid O B H σ E x re h1 _ fun v H1 e1 r1 => ⟨k, truD_ok (.inl r1) h2, ?_⟩
  cases k with
  | true =>
    rw [if_pos rfl] at hm ⊢
    exact hb.si hid O B H1 σ E d (re.grow e1) hm Q fun u H2 e2 r2 => q u H2 (e1.trans e2) r2
  | false =>
    rw [if_neg Bool.false_ne_true] at hm ⊢
    cases hm
    exact q v H1 e1 r1⟩
theorem de_or {pos : Pos} {rest : List Expr} (ha : DE X a ma) (hb : DE X (.BoolOp .Or (b :: rest) pos) mb) : DE X (.BoolOp .Or (a :: b :: rest) pos) (mOrV ma mb) := ⟨_, pe_orT ha.pe hb.pe, fun hid O B H σ E d re hm Q q => by
  obtain ⟨x, h1, hm⟩ := bind_some hm
  obtain ⟨k, h2, hm⟩ := bind_some hm
  refine ha.si hid O B H σ E x re h1 _ fun v H1 e1 r1 => ⟨k, truD_ok (.inl r1) h2, ?_⟩
  cases k with
  | true =>
    rw [if_pos rfl] at hm ⊢
    cases hm
    exact q v H1 e1 r1
  | false =>
    rw [if_neg Bool.false_ne_true] at hm ⊢
    exact hb.si hid O B H1 σ E d (re.grow e1) hm Q fun u H2 e2 r2 => q u H2 (e1.trans e2) r2⟩
theorem de_not {pos : Pos} (ha : DT X a ma) : DE X (.UnaryOp .Not a pos) (mUn (fun d => (truD d).map fun k => .bl (!k)) ma) := ⟨_, pe_notT ha.pe, fun hid O B H σ E d re hm Q q => by
  obtain ⟨x, h1, hm⟩ := bind_some hm
  obtain ⟨k, h2, rfl⟩ := map_some hm
  exact ha.si hid O B H σ E x re h1 _ fun v H1 e1 r1 => ⟨k, truD_ok r1 h2, q _ H1 e1 (.bl _)⟩⟩
@[simp] def mIf (c : En → Option Bool) (a b : En → Option D) : En → Option D := fun E => (c E).bind fun k => if k = true then a E else b E
theorem de_if {c : Expr} {mc : En → Option Bool} {pos : Pos} (hc : DB X c mc) (ha : DE X a ma) (hb : DE X b mb) : DE X (.IfExp c a b pos) (mIf mc ma mb) := ⟨_, pe_ifExp hc.pt ha.pe hb.pe, fun hid O B H σ E d re hm Q q => by
  obtain ⟨k, h1, hm⟩ := bind_some hm
  refine hc.si hid O B H σ E k re h1 _ fun H1 e1 => ?_
  cases k with
  | true =>
    rw [if_pos rfl] at hm ⊢
    exact ha.si hid O B H1 σ E d (re.grow e1) hm Q fun u H2 e2 r2 => q u H2 (e1.trans e2) r2
  | false =>
    rw [if_neg Bool.false_ne_true] at hm ⊢
    exact hb.si hid O B H1 σ E d (re.grow e1) hm Q fun u H2 e2 r2 => q u H2 (e1.trans e2) r2⟩

/-! ### arguments, displays -/
theorem da_nil : DA X [] mNil := ⟨_, pa_nil, fun hid O B H σ E ds re hm Q q => by
  cases hm
  exact q [] H (Ex.refl H) .nil⟩
theorem da_cons {es : List Expr} {m : En → Option (List D)} (ha : DE X a ma) (hr : DA X es m) (hs : starEach (a :: es) X.env = (false, eval a X.env) :: starEach es X.env := by rfl) : DA X (a :: es) (mCons ma m) := ⟨_, pa_cons ha.pe hr.pa hs, fun hid O B H σ E ds re hm Q q => by
  obtain ⟨x, h1, hm⟩ := bind_some hm
  obtain ⟨xs, h2, rfl⟩ := map_some hm
  refine ha.si hid O B H σ E x re h1 _ fun v H1 e1 r1 => ?_
  exact hr.si hid O B H1 σ E xs (re.grow e1) h2 _ fun vs H2 e2 r2 => q _ H2 (e1.trans e2) (.cons (r1.mono (rem_mono e2) _) r2)⟩
theorem dat_nil : DAT X [] mNil := ⟨_, pa_nil, fun hid O B H σ E ds re hm Q q => by
  cases hm
  exact q [] H (Ex.refl H) .nil⟩
theorem dat_cons {es : List Expr} {m : En → Option (List D)} (ha : DT X a ma) (hr : DAT X es m) (hs : starEach (a :: es) X.env = (false, eval a X.env) :: starEach es X.env := by rfl) : DAT X (a :: es) (mCons ma m) := ⟨_, pa_cons ha.pe hr.pa hs, fun hid O B H σ E ds re hm Q q => by
  obtain ⟨x, h1, hm⟩ := bind_some hm
  obtain ⟨xs, h2, rfl⟩ := map_some hm
  refine ha.si hid O B H σ E x re h1 _ fun v H1 e1 r1 => ?_
  exact hr.si hid O B H1 σ E xs (re.grow e1) h2 _ fun vs H2 e2 r2 => q _ H2 (e1.trans e2) (.cons (r1.full.mono e2 _) r2)⟩
theorem de_tup {es : List Expr} {x1} {pos : Pos} {m : En → Option (List D)} (h : DA X es m) : DE X (.Tuple es x1 pos) (mTup m) := ⟨_, pe_tup h.pa, fun hid O B H σ E d re hm Q q => by
  obtain ⟨ds, h1, hm⟩ := bind_some hm
  obtain ⟨h2, rfl⟩ := ite_some hm
  refine h.si hid O B H σ E ds re h1 _ fun vs H1 e1 r1 => ⟨by rw [r1.length]; exact size_le h2, fun p hp => ?_⟩
  have ex : Ex H1 (upd H1 p (.tup vs)) := Ex.new hp
  exact q _ _ (e1.trans ex) (.tup (Evl.st_of (vis_new ((re.grow e1).fresh hp) upd_same)) (r1.mono (rem_mono ex) _))⟩
theorem df_lst {es : List Expr} {pos : Pos} {m : En → Option (List D)} (h : DA X es m) : DF X (.List es pos) (mLst m) := ⟨_, pe_lst h.pa, fun hid O B H σ E ds' re hm Q q => by
  obtain ⟨ds, h1, hm⟩ := bind_some hm
  obtain ⟨h2, rfl⟩ := ite_some hm
  refine h.si hid O B H σ E ds re h1 _ fun vs H1 e1 r1 => ⟨by rw [r1.length]; exact size_le h2, fun p hp => ?_⟩
  have ex : Ex H1 (upd H1 p (.lst vs)) := Ex.new hp
  exact q p vs _ (Evl.fresh_back e1 hp) (e1.trans ex) upd_same (r1.mono (rem_new hp ex) _)⟩

/-! ### subscripts, slices -/
@[simp] def ixD : D → D → Option D
  | .lst ds, .int i => atI ds i
  | .tup ds, .int i => atI ds i
  | .scr ns, .int i => (atI ns i).map .int
  | .str z, .int i => if z.length ≤ 100000 then (atI z.cps.toList i).map fun c => .str ⟨#[c]⟩ else none
  | _, _ => none
theorem atI_rp {K : PySem.W.Frag} {H : Hp} {vs : List V} {ds : List D} {i : Int} {d : D} (h : RpL K H vs ds) (e : atI ds i = some d) : ∃ v, atI vs i = some v ∧ Rp K H v d := by
  unfold atI at e ⊢
  obtain ⟨j, h1, h2⟩ := bind_some e
  obtain ⟨v, h3, h4⟩ := h.get h2
  exact ⟨v, by rw [h.length, h1]; exact h3, h4⟩
theorem atI_map {α β : Type} (f : α → β) (xs : List α) (i : Int) : atI (xs.map f) i = (atI xs i).map f := by
  unfold atI
  rw [List.length_map]
  cases h : ixN xs.length i with
  | none => rfl
  | some j =>
    show (xs.map f)[j]? = (xs[j]?).map f
    rw [List.getElem?_map]
theorem od_ix {K : PySem.W.Frag} : OD K (rIx K) ixD := fun hid O H x y a b d al ra rb hm Q q => by
  unfold ixD at hm
  split at hm
  · obtain ⟨p, xs, rfl, h1, h2⟩ := ra.seq
    obtain ⟨v, h3, h4⟩ := atI_rp h2 hm
    exact .inl ⟨p, xs, _, v, rfl, rb.int, h1, h3, q v H (Ex.refl H) h4⟩
  · obtain ⟨p, xs, rfl, h1, h2⟩ := ra.tup
    obtain ⟨v, h3, h4⟩ := atI_rp h2 hm
    exact .inr (.inl ⟨p, xs, _, v, rfl, rb.int, Evl.ex_t rem_ex h1, h3, q v H (Ex.refl H) h4⟩)
  · obtain ⟨p, rfl, h1⟩ := ra.scr
    obtain ⟨n, h2, rfl⟩ := map_some hm
    refine .inl ⟨p, _, _, .int n, rfl, rb.int, h1, ?_, q _ H (Ex.refl H) (.int n)⟩
    rw [atI_map, h2]
    rfl
  · rename_i z i
    by_cases h1 : z.length ≤ 100000
    · rw [if_pos h1] at hm
      obtain ⟨c, h3, rfl⟩ := map_some hm
      exact .inr (.inr ⟨_, _, c, ra.str, rb.int, size_le h1, h3, q _ H (Ex.refl H) (.str _)⟩)
    · rw [if_neg h1] at hm
      cases hm
  · cases hm
theorem de_ix {pos : Pos} (ha : DT X a ma) (hb : DT X b mb) (hs : PlainIx b := by exact fun _ _ => rfl) : DE X (.Subscript a b pos) (mBin ixD ma mb) := ⟨_, pe_ix ix_seq ha.pe hb.pe hs, st_bin od_ix ha.si hb.si⟩
theorem do_none : DO X none (fun _ => some none) := ⟨_, po_none, fun hid O B H σ E o re hm Q q => by
  cases hm
  exact q H (Ex.refl H)⟩
@[simp] def inOf : D → Option (Option Int)
  | .int i => some (some i)
  | _ => none
theorem do_some (ha : DT X a ma) : DO X (some a) (fun E => (ma E).bind inOf) := ⟨_, po_some ha.pe, fun hid O B H σ E o re hm Q q => by
  obtain ⟨x, h1, hm⟩ := bind_some hm
  unfold inOf at hm
  split at hm
  · cases hm
    exact ha.si hid O B H σ E _ re h1 _ fun v H1 e1 r1 => ⟨_, r1.int, q H1 e1⟩
  · cases hm⟩
def cutD (ds : List D) (lo hi : Option Int) : List D := (ds.drop (HT.sIx ds.length 0 lo)).take (HT.sIx ds.length ds.length hi - HT.sIx ds.length 0 lo)
theorem cut_rp {K : PySem.W.Frag} {H : Hp} {vs : List V} {ds : List D} (lo hi : Option Int) (h : RpL K H vs ds) : RpL K H (cutV vs lo hi) (cutD ds lo hi) := by
  unfold cutV cutD
  rw [h.length]
  exact (h.drop _).take _
@[simp] def lstOf : D → Option (List D)
  | .lst ds => some ds
  | .scr ns => some (ns.map .int)
  | _ => none
theorem lstOf_some {d : D} {ds : List D} (h : lstOf d = some ds) : d = .lst ds ∨ ∃ ns, d = .scr ns ∧ ds = ns.map .int := by
  unfold lstOf at h
  split at h
  · cases h
    exact .inl rfl
  · cases h
    exact .inr ⟨_, rfl, rfl⟩
  · cases h
/-- a slice of a list -/
theorem df_slice {lo hi : Option Expr} {ml mh : En → Option (Option Int)} {p2 pos : Pos} (ha : DT X a ma) (hl : DO X lo ml) (hh : DO X hi mh) :
    DF X (.Subscript a (.Slice lo hi none p2) pos) (fun E => ((ma E).bind lstOf).bind fun ds => (ml E).bind fun l => (mh E).map fun h => cutD ds l h) := ⟨_, pe_slice sl_list ha.pe hl.po hh.po, fun hid O B H σ E ds re hm Q q => by
  obtain ⟨es, h1, hm⟩ := bind_some hm
  obtain ⟨x, h0, h1⟩ := bind_some h1
  obtain ⟨l, h2, hm⟩ := bind_some hm
  obtain ⟨h, h3, rfl⟩ := map_some hm
  refine ha.si hid O B H σ E x re h0 _ fun v H1 e1 r1 => ?_
  refine hl.si hid O B H1 σ E l (re.grow e1) h2 _ fun H2 e2 => ?_
  refine hh.si hid O B H2 σ E h (re.grow (e1.trans e2)) h3 _ fun H3 e3 => ?_
  have e123 := (e1.trans e2).trans e3
  have r3 := (r1.mono e2).mono e3
  rcases lstOf_some h1 with rfl | ⟨ns, rfl, rfl⟩
  · obtain ⟨p, xs, rfl, p1, p2⟩ := r3.seq
    refine ⟨p, xs, rfl, p1, fun t ht => ?_⟩
    have ex : Ex H3 (upd H3 t (.lst (cutV xs l h))) := Ex.new ht
    exact q t _ _ (Evl.fresh_back e123 ht) (e123.trans ex) upd_same ((cut_rp l h p2).mono (rem_new ht ex) _)
  · obtain ⟨p, rfl, p1⟩ := r3.scr
    refine ⟨p, _, rfl, p1, fun t ht => ?_⟩
    have ex : Ex H3 (upd H3 t (.lst (cutV (ns.map V.int) l h))) := Ex.new ht
    exact q t _ _ (Evl.fresh_back e123 ht) (e123.trans ex) upd_same ((cut_rp l h (RpL.ints _)).mono (rem_new ht ex) _)⟩
/-- xs[::-1] -/
theorem df_rev {k : Nat} {p1 p2 p3 pos : Pos} (ha : DT X a ma) : DF X (.Subscript a (.Slice none none (some (.UnaryOp .USub (.Constant (.int 1) k p1) p2)) p3) pos) (fun E => ((ma E).bind lstOf).map List.reverse) := ⟨_, pe_revL ha.pe, fun hid O B H σ E ds re hm Q q => by
  obtain ⟨es, h1, rfl⟩ := map_some hm
  obtain ⟨x, h0, h1⟩ := bind_some h1
  refine ha.si hid O B H σ E x re h0 _ fun v H1 e1 r1 => ?_
  rcases lstOf_some h1 with rfl | ⟨ns, rfl, rfl⟩
  · obtain ⟨p, xs, rfl, p1, p2⟩ := r1.seq
    refine ⟨p, xs, rfl, p1, fun t ht => ?_⟩
    have ex : Ex H1 (upd H1 t (.lst xs.reverse)) := Ex.new ht
    exact q t _ _ (Evl.fresh_back e1 ht) (e1.trans ex) upd_same (p2.rev.mono (rem_new ht ex) _)
  · obtain ⟨p, rfl, p1⟩ := r1.scr
    refine ⟨p, _, rfl, p1, fun t ht => ?_⟩
    have ex : Ex H1 (upd H1 t (.lst (ns.map V.int).reverse)) := Ex.new ht
    exact q t _ _ (Evl.fresh_back e1 ht) (e1.trans ex) upd_same ((RpL.rev (RpL.ints _)).mono (rem_new ht ex) _)⟩
end
end Sx

set_option Elab.async false
set_option linter.all false
set_option maxRecDepth 100000
set_option maxHeartbeats 1000000
namespace Sx
open PySem PySem.Spec PyProof.Rows L2
open Evl (Ex)

/-! ### more about environments -/
section
variable {K : PySem.W.Frag} {hid O : AS} {B H H' : Hp} {σ : L2.St} {E : En}
/-- a new list, owned by no slot -/
theorem RE.addO (r : RE K hid O B H σ E) {p : Addr} {xs : List V} (hp : H p = none) (e : Ex H H') (hx : H' p = some (.lst xs)) : RE K hid (orS O (· = p)) B H' σ E := by
  have sub : ∀ a, orS hid (orS O (· = p)) a → orS (orS hid O) (· = p) a := fun a z => by
    rcases z with z | z | z
    · exact .inl (.inl z)
    · exact .inl (.inr z)
    · exact .inr z
  have vis : Ex (rem (orS hid O) H) (rem (orS hid (orS O (· = p))) H') := fun a o q => rem_sub sub _ _ (rem_new (W := orS hid O) hp e a o q)
  refine ⟨fun a o q => ⟨e a o (r.base a o q).1, fun z => ?_⟩, fun a z => ?_, r.hidd, r.len, fun i d q => ?_, fun i es q => ?_, r.dis⟩
  · rcases z with z | z
    · exact (r.base a o q).2 z
    · subst z
      rw [(r.base _ o q).1] at hp
      cases hp
  · rcases z with z | z
    · exact ⟨(r.own a z).1, let ⟨ys, q⟩ := (r.own a z).2; ⟨ys, e a _ q⟩⟩
    · subst z
      exact ⟨fun w => r.fresh hp (.inl w), xs, hx⟩
  · obtain ⟨v, h1, h2⟩ := r.fz i d q
    exact ⟨v, h1, h2.mono vis d⟩
  · obtain ⟨q', ys, h1, h2, h3, h4⟩ := r.ow i es q
    exact ⟨q', ys, h1, .inl h2, e _ _ h3, h4.mono vis es⟩
theorem RE.rebase (r : RE K hid O B H σ E) : RE K hid O (rem O H) H σ E :=
  ⟨fun a o q => ⟨(rem_some.mp q).2, (rem_some.mp q).1⟩, r.own, fun a z => by
    obtain ⟨o, q⟩ := r.hidd a z
    exact ⟨o, rem_some.mpr ⟨(r.base a _ q).2, (r.base a _ q).1⟩⟩, r.len, r.fz, r.ow, r.dis⟩
theorem RE.back {B' : Hp} (r : RE K hid O B' H σ E) (e : Ex B B') (hd : ∀ a, hid a → ∃ xs, B a = some (.lst xs)) : RE K hid O B H σ E :=
  ⟨fun a o q => r.base a o (e a o q), r.own, hd, r.len, r.fz, r.ow, r.dis⟩
theorem RE.old (r : RE K hid O B H σ E) : Ex B (rem O H) := fun a o q => rem_some.mpr ⟨(r.base a o q).2, (r.base a o q).1⟩
@[simp] def wipeE (E : En) : List Nat → En
  | [] => E
  | v :: vs => (wipeE E vs).set v .un
theorem RE.wiped (r : RE K hid O B H σ E) : ∀ vs : List Nat, RE K hid O B H (wipe σ vs) (wipeE E vs)
  | [] => r
  | v :: vs => (r.wiped vs).drop v
end
theorem wipe_get (σ : L2.St) (j : Nat) : ∀ vs : List Nat, (wipe σ vs)[j]? = if j ∈ vs ∧ j < σ.length then some none else σ[j]?
  | [] => by simp [wipe]
  | v :: vs => by
    unfold wipe
    by_cases h : v = j
    · subst h
      by_cases hl : v < σ.length
      · rw [List.getElem?_set_self (by rw [wipe_length]; exact hl), if_pos ⟨List.mem_cons_self .., hl⟩]
      · rw [List.getElem?_eq_none (by rw [List.length_set, wipe_length]; omega), if_neg (fun z => hl z.2), List.getElem?_eq_none (by omega)]
    · rw [List.getElem?_set_ne h, wipe_get σ j vs]
      by_cases hj : j ∈ vs
      · by_cases hl : j < σ.length
        · rw [if_pos ⟨hj, hl⟩, if_pos ⟨List.mem_cons_of_mem _ hj, hl⟩]
        · rw [if_neg (fun z => hl z.2), if_neg (fun z => hl z.2)]
      · rw [if_neg (fun z => hj z.1), if_neg (fun z => by
          rcases List.mem_cons.mp z.1 with e | e
          · exact h e.symm
          · exact hj e)]
theorem wipe_set (σ : L2.St) {i : Nat} {x : Option V} {vs : List Nat} (h : i ∈ vs) : wipe (σ.set i x) vs = wipe σ vs := by
  refine List.ext_getElem? fun j => ?_
  rw [wipe_get, wipe_get, List.length_set]
  by_cases hj : j ∈ vs ∧ j < σ.length
  · rw [if_pos hj, if_pos hj]
  · rw [if_neg hj, if_neg hj]
    by_cases e : i = j
    · subst e
      rw [List.getElem?_eq_none (by rw [List.length_set]; exact Nat.le_of_not_lt fun z => hj ⟨h, z⟩), List.getElem?_eq_none (Nat.le_of_not_lt fun z => hj ⟨h, z⟩)]
    · rw [List.getElem?_set_ne e]

/-! ### what is walked -/
section
variable (K : PySem.W.Frag)
def Yd (W : AS) (H2 : Hp) (ds : List D) (Y : Nat → Hp → V → Hp → Prop) : Prop := ∀ (i : Nat) (H1 : Hp) (x : V) (H1' : Hp) (W' : AS) (d : D), Y i H1 x H1' → ds[i]? = some d → Ex (rem W H2) (rem W' H1) → (∀ p, H1 p = none → ¬ W' p) → Ex H1 H1' ∧ Rp K (rem W' H1') x d
def SI (wi : TI) (m : En → Option (List D)) : Prop := ∀ (hid O : AS) (B H : Hp) (σ : L2.St) (E : En) (ds : List D), RE K hid O B H σ E → m E = some ds → ∀ R : It → Hp → Prop,
  (∀ J H2 G Y, Ex H H2 → Walk J ds.length G Y → (∀ H', Ex (rem (orS hid O) H2) H' → G H') → Yd K (orS hid O) H2 ds Y → R J H2) → wi σ H R
def SIT (wi : TI) (m : En → Option (List D)) : Prop := ∀ (hid O : AS) (B H : Hp) (σ : L2.St) (E : En) (ds : List D), RE K hid O B H σ E → m E = some ds → ∀ R : It → Hp → Prop,
  (∀ J H2 G Y, Ex H H2 → Walk J ds.length G Y → (∀ H', Ex H2 H' → G H') → Yd K (orS hid O) H2 ds Y → R J H2) → wi σ H R
end
section
variable (K : PySem.W.Frag)
def tIq (m : En → Option (List D)) : TI := fun σ H R => ∃ (hid O : AS) (B : Hp) (E : En) (ds : List D), RE K hid O B H σ E ∧ m E = some ds ∧
  ∀ J H2 G Y, Ex H H2 → Walk J ds.length G Y → (∀ H', Ex (rem (orS hid O) H2) H' → G H') → Yd K (orS hid O) H2 ds Y → R J H2
def tITq (m : En → Option (List D)) : TI := fun σ H R => ∃ (hid O : AS) (B : Hp) (E : En) (ds : List D), RE K hid O B H σ E ∧ m E = some ds ∧
  ∀ J H2 G Y, Ex H H2 → Walk J ds.length G Y → (∀ H', Ex H2 H' → G H') → Yd K (orS hid O) H2 ds Y → R J H2
end
def DI (X : Cx) (tg e : Expr) (m : En → Option (List D)) : Prop := ∃ wi, PI X tg e wi ∧ SI X.K wi m
def DIT (X : Cx) (tg e : Expr) (m : En → Option (List D)) : Prop := ∃ wi, PI X tg e wi ∧ SIT X.K wi m
theorem DI.pi {X : Cx} {tg e : Expr} {m : En → Option (List D)} (h : DI X tg e m) : PI X tg e (tIq X.K m) := by
  obtain ⟨te, p, s⟩ := h
  exact ⟨fun pins s0 σ H Q I h => p.run pins s0 σ H Q I (by obtain ⟨hid, O, B, E, d, r, hm, q⟩ := h; exact s hid O B H σ E d r hm Q q)⟩
theorem DI.si {X : Cx} {tg e : Expr} {m : En → Option (List D)} (h : DI X tg e m) : SI X.K (tIq X.K m) m := fun hid O B H σ E d r hm Q q => ⟨hid, O, B, E, d, r, hm, q⟩
theorem DIT.pi {X : Cx} {tg e : Expr} {m : En → Option (List D)} (h : DIT X tg e m) : PI X tg e (tITq X.K m) := by
  obtain ⟨te, p, s⟩ := h
  exact ⟨fun pins s0 σ H Q I h => p.run pins s0 σ H Q I (by obtain ⟨hid, O, B, E, d, r, hm, q⟩ := h; exact s hid O B H σ E d r hm Q q)⟩
theorem DIT.si {X : Cx} {tg e : Expr} {m : En → Option (List D)} (h : DIT X tg e m) : SIT X.K (tITq X.K m) m := fun hid O B H σ E d r hm Q q => ⟨hid, O, B, E, d, r, hm, q⟩
theorem Yd.at {K : PySem.W.Frag} {W : AS} {H2 : Hp} {xs : List V} {ds : List D} (h : RpL K (rem W H2) xs ds) : Yd K W H2 ds (YAt xs) := fun i H1 x H1' W' d y hd e _ => by
  obtain ⟨rfl, hx⟩ := y
  obtain ⟨v, h1, h2⟩ := h.get hd
  rw [hx] at h1
  cases h1
  exact ⟨Ex.refl _, h2.mono e d⟩
def rangeD (lo : Int) (n : Nat) : List D := (List.range n).map fun (i : Nat) => D.int (lo + (i : Int))
theorem rangeD_len (lo : Int) (n : Nat) : (rangeD lo n).length = n := by
  unfold rangeD
  rw [List.length_map, List.length_range]
theorem rangeD_get {lo : Int} {n i : Nat} (h : i < n) : (rangeD lo n)[i]? = some (.int (lo + i)) := by
  unfold rangeD
  rw [List.getElem?_map, List.getElem?_range h]
  rfl
theorem Yd.fn {K : PySem.W.Frag} {W : AS} {H2 : Hp} {lo : Int} {n : Nat} : Yd K W H2 (rangeD lo n) (YFn fun i => .int (lo + i)) := fun i H1 x H1' W' d y hd e _ => by
  obtain ⟨rfl, rfl⟩ := y
  have hi : i < n := by
    have := (List.getElem?_eq_some_iff.mp hd).1
    rwa [rangeD_len] at this
  rw [rangeD_get hi] at hd
  cases hd
  exact ⟨Ex.refl _, .int _⟩
section
variable {X : Cx} {tg e : Expr} {te : TE} {m : En → Option D}
theorem DI.t {m : En → Option (List D)} (h : DI X tg e m) : DIT X tg e m := ⟨_, h.pi, fun hid O B H σ E ds r hm R k => h.si hid O B H σ E ds r hm R fun J H2 G Y e w g y => k J H2 G Y e w (fun H' z => g H' (Ex.trans rem_ex z)) y⟩
/-- a list -/
theorem di_list (h : DE X e m) : DI X tg e (fun E => (m E).bind lstOf) := ⟨_, pi_list h.pe, fun hid O B H σ E ds r hm R k => by
  obtain ⟨x, h1, hm⟩ := bind_some hm
  refine h.si hid O B H σ E x r h1 _ fun v H1 e1 r1 => ?_
  rcases lstOf_some hm with rfl | ⟨ns, rfl, rfl⟩
  · cases r1 with
    | @lst a xs _ g1 g2 =>
      refine ⟨a, rfl, ⟨xs, .inl (.inl (rem_some.mp g1).2)⟩, ?_⟩
      have w := walk_list (K := X.K) (a := a) (xs := xs)
      rw [g2.length] at w
      exact k _ H1 _ _ e1 w (fun H' z => .inl (.inl (z a _ g1))) (Yd.at g2)
  · cases r1 with
    | @scr a _ g1 =>
      refine ⟨a, rfl, ⟨_, Evl.ex_l rem_ex g1⟩, ?_⟩
      have w := walk_list (K := X.K) (a := a) (xs := ns.map V.int)
      rw [List.length_map, ← List.length_map (f := D.int)] at w
      exact k _ H1 _ _ e1 w (fun H' z => Evl.ex_l z g1) (Yd.at (RpL.ints ns))⟩
theorem dit_list (h : DT X e m) : DIT X tg e (fun E => (m E).bind lstOf) := ⟨_, pi_list h.pe, fun hid O B H σ E ds r hm R k => by
  obtain ⟨x, h1, hm⟩ := bind_some hm
  refine h.si hid O B H σ E x r h1 _ fun v H1 e1 r1 => ?_
  rcases lstOf_some hm with rfl | ⟨ns, rfl, rfl⟩
  · obtain ⟨a, xs, rfl, g1, g2⟩ := r1.lst
    refine ⟨a, rfl, ⟨xs, .inl (.inl g1)⟩, ?_⟩
    have w := walk_list (K := X.K) (a := a) (xs := xs)
    rw [g2.length] at w
    exact k _ H1 _ _ e1 w (fun H' z => .inl (.inl (z a _ g1))) (Yd.at g2)
  · obtain ⟨a, rfl, g1⟩ := r1.scr
    refine ⟨a, rfl, ⟨_, g1⟩, ?_⟩
    have w := walk_list (K := X.K) (a := a) (xs := ns.map V.int)
    rw [List.length_map, ← List.length_map (f := D.int)] at w
    exact k _ H1 _ _ e1 w (fun H' z => Evl.ex_l z g1) (Yd.at (RpL.ints ns))⟩
@[simp] def tupOf : D → Option (List D)
  | .tup ds => some ds
  | _ => none
/-- a tuple -/
theorem di_tup (h : DE X e m) : DI X tg e (fun E => (m E).bind tupOf) := ⟨_, pi_tup h.pe, fun hid O B H σ E ds r hm R k => by
  obtain ⟨x, h1, hm⟩ := bind_some hm
  refine h.si hid O B H σ E x r h1 _ fun v H1 e1 r1 => ?_
  unfold tupOf at hm
  split at hm
  · cases hm
    cases r1 with
    | @tup a xs _ g1 g2 =>
      refine ⟨a, rfl, ⟨xs, Evl.ex_t rem_ex g1⟩, ?_⟩
      have w := walk_tup (K := X.K) (a := a) (xs := xs)
      rw [g2.length] at w
      exact k _ H1 _ _ e1 w (fun H' z => Evl.ex_t z g1) (Yd.at g2)
  · cases hm⟩
@[simp] def rg1 : D → Option (List D)
  | .int n => if n ≤ 100000 ∧ -100000 ≤ n then some (rangeD 0 n.toNat) else none
  | _ => none
theorem rg1_some {d : D} {ds : List D} (h : rg1 d = some ds) : ∃ n : Int, d = .int n ∧ n ≤ 100000 ∧ -100000 ≤ n ∧ ds = rangeD 0 n.toNat := by
  unfold rg1 at h
  split at h
  · obtain ⟨h1, h2⟩ := ite_some h
    exact ⟨_, rfl, h1.1, h1.2, h2.symm⟩
  · cases h
@[simp] def rg2 : D → D → Option (List D)
  | .int a, .int n => if (n ≤ 100000 ∧ -100000 ≤ n) ∧ (a ≤ 100000 ∧ -100000 ≤ a) then some (rangeD a (n - a).toNat) else none
  | _, _ => none
theorem rg2_some {c d : D} {ds : List D} (h : rg2 c d = some ds) : ∃ a n : Int, c = .int a ∧ d = .int n ∧ (n ≤ 100000 ∧ -100000 ≤ n) ∧ (a ≤ 100000 ∧ -100000 ≤ a) ∧ ds = rangeD a (n - a).toNat := by
  unfold rg2 at h
  split at h
  · obtain ⟨h1, h2⟩ := ite_some h
    exact ⟨_, _, rfl, rfl, h1.1, h1.2, h2.symm⟩
  · cases h
theorem di_range1 {a : Expr} {ma : En → Option D} {p pos : Pos} (hm : X.mg "range" = none) (ha : DT X a ma) (hg : Gl X "range" := by rfl) (hs : starEach [a] X.env = [(false, eval a X.env)] := by rfl) (hs1 : starEach [a] X.env = (false, eval a X.env) :: starEach [] X.env := by rfl) :
    DI X tg (.Call (.Name "range" p) [a] [] pos) (fun E => (ma E).bind rg1) := ⟨_, pi_range1 hg hm (pa_cons ha.pe pa_nil hs1) hs, fun hid O B H σ E ds r hm R k => by
  obtain ⟨x, h1, hm⟩ := bind_some hm
  obtain ⟨n, rfl, b1, b2, rfl⟩ := rg1_some hm
  refine ha.si hid O B H σ E _ r h1 _ fun v H1 e1 r1 => ?_
  obtain rfl := r1.int
  refine ⟨n, rfl, by omega, by omega, ?_⟩
  have w := walk_range (lo := 0) (n := n.toNat)
  rw [← rangeD_len 0 n.toNat] at w
  rw [rangeD_len] at w
  exact k _ H1 _ _ e1 (by rw [rangeD_len]; exact w) (fun _ _ => trivial) Yd.fn⟩
theorem di_range2 {a b : Expr} {ma mb : En → Option D} {p pos : Pos} (hm : X.mg "range" = none) (ha : DT X a ma) (hb : DT X b mb) (hg : Gl X "range" := by rfl) (hs : starEach [a, b] X.env = [(false, eval a X.env), (false, eval b X.env)] := by rfl) (hs2 : starEach [b] X.env = [(false, eval b X.env)] := by rfl)
    (hs1 : starEach [a, b] X.env = (false, eval a X.env) :: starEach [b] X.env := by rfl) (hs3 : starEach [b] X.env = (false, eval b X.env) :: starEach [] X.env := by rfl) :
    DI X tg (.Call (.Name "range" p) [a, b] [] pos) (fun E => (ma E).bind fun x => (mb E).bind fun y => rg2 x y) := ⟨_, pi_range2 hg hm (pa_cons ha.pe (pa_cons hb.pe pa_nil hs3) hs1) hs hs2, fun hid O B H σ E ds r hm R k => by
  obtain ⟨x, h1, hm⟩ := bind_some hm
  obtain ⟨y, h2, hm⟩ := bind_some hm
  obtain ⟨a, n, rfl, rfl, b1, b2, rfl⟩ := rg2_some hm
  refine ha.si hid O B H σ E _ r h1 _ fun v H1 e1 r1 => ?_
  obtain rfl := r1.int
  refine hb.si hid O B H1 σ E _ (r.grow e1) h2 _ fun v H2 e2 r2 => ?_
  obtain rfl := r2.int
  refine ⟨a, n, rfl, by omega, ?_⟩
  exact k _ H2 _ _ (e1.trans e2) (by rw [rangeD_len]; exact walk_range) (fun _ _ => trivial) Yd.fn⟩
end

/-! ### targets -/
section
variable (K : PySem.W.Frag)
def SG (g : TG) (js : List Nat) (m : En → D → Option En) : Prop := ∀ (hid O : AS) (B H : Hp) (σ : L2.St) (E : En) (v : V) (d : D) (E' : En), RE K hid O B H σ E → Rp K (rem (orS hid O) H) v d → m E d = some E' → ∀ Q : L2.St → Hp → Prop,
  (∀ σ', RE K hid O B H σ' E' → (∀ vs : List Nat, (∀ j ∈ js, j ∈ vs) → wipe σ' vs = wipe σ vs) → Q σ' H) → g v σ H Q
def SGs (g : TGs) (js : List Nat) (m : En → List D → Option En) : Prop := ∀ (hid O : AS) (B H : Hp) (σ : L2.St) (E : En) (v : List V) (d : List D) (E' : En), RE K hid O B H σ E → RpL K (rem (orS hid O) H) v d → m E d = some E' → ∀ Q : L2.St → Hp → Prop,
  (∀ σ', RE K hid O B H σ' E' → (∀ vs : List Nat, (∀ j ∈ js, j ∈ vs) → wipe σ' vs = wipe σ vs) → Q σ' H) → g v σ H Q
end
section
variable (K : PySem.W.Frag)
def tGq (js : List Nat) (m : En → D → Option En) : TG := fun v σ H Q => ∃ (hid O : AS) (B : Hp) (E : En) (d : D) (E' : En), RE K hid O B H σ E ∧ Rp K (rem (orS hid O) H) v d ∧ m E d = some E' ∧
  ∀ σ', RE K hid O B H σ' E' → (∀ vs : List Nat, (∀ j ∈ js, j ∈ vs) → wipe σ' vs = wipe σ vs) → Q σ' H
def tGsq (js : List Nat) (m : En → List D → Option En) : TGs := fun v σ H Q => ∃ (hid O : AS) (B : Hp) (E : En) (d : List D) (E' : En), RE K hid O B H σ E ∧ RpL K (rem (orS hid O) H) v d ∧ m E d = some E' ∧
  ∀ σ', RE K hid O B H σ' E' → (∀ vs : List Nat, (∀ j ∈ js, j ∈ vs) → wipe σ' vs = wipe σ vs) → Q σ' H
end
def DG (X : Cx) (tg : Expr) (js : List Nat) (m : En → D → Option En) : Prop := ∃ g, PG X tg g ∧ SG X.K g js m
def DGs (X : Cx) (tg : List Expr) (js : List Nat) (m : En → List D → Option En) : Prop := ∃ g, PGs X tg g ∧ SGs X.K g js m
theorem DG.pg {X : Cx} {tg : Expr} {js : List Nat} {m : En → D → Option En} (h : DG X tg js m) : PG X tg (tGq X.K js m) := by
  obtain ⟨te, p, s⟩ := h
  exact ⟨fun pins s0 σ H v u Q I rv h => p.run pins s0 σ H v u Q I rv (by obtain ⟨hid, O, B, E, d, E', r, r2, hm, q⟩ := h; exact s hid O B H σ E v d E' r r2 hm Q q)⟩
theorem DG.si {X : Cx} {tg : Expr} {js : List Nat} {m : En → D → Option En} (h : DG X tg js m) : SG X.K (tGq X.K js m) js m := fun hid O B H σ E v d E' r r2 hm Q q => ⟨hid, O, B, E, d, E', r, r2, hm, q⟩
theorem DGs.pg {X : Cx} {tg : List Expr} {js : List Nat} {m : En → List D → Option En} (h : DGs X tg js m) : PGs X tg (tGsq X.K js m) := by
  obtain ⟨te, p, s⟩ := h
  exact ⟨fun pins s0 σ H v u Q I rv h => p.run pins s0 σ H v u Q I rv (by obtain ⟨hid, O, B, E, d, E', r, r2, hm, q⟩ := h; exact s hid O B H σ E v d E' r r2 hm Q q)⟩
theorem DGs.si {X : Cx} {tg : List Expr} {js : List Nat} {m : En → List D → Option En} (h : DGs X tg js m) : SGs X.K (tGsq X.K js m) js m := fun hid O B H σ E v d E' r r2 hm Q q => ⟨hid, O, B, E, d, E', r, r2, hm, q⟩
@[simp] def gM (i : Nat) : En → D → Option En := fun E d => some (E.set i (.fz d))
@[simp] def gsNil : En → List D → Option En := fun E ds => match ds with
  | [] => some E
  | _ => none
@[simp] def gsCons (g : En → D → Option En) (h : En → List D → Option En) : En → List D → Option En := fun E ds => match ds with
  | d :: ds => (g E d).bind fun E1 => h E1 ds
  | [] => none
@[simp] def gTupM (n : Nat) (g : En → List D → Option En) : En → D → Option En := fun E d => match d with
  | .tup ds => if ds.length = n then g E ds else none
  | _ => none
section
variable {X : Cx} {pos : Pos}
theorem dg_name (i : Nat) {x : Str} (hN : X.N.Nodup) (hi : X.N[i]? = some x := by rfl) (hx : Loc X.env.scope x := by first | exact Or.inl rfl | exact Or.inr rfl) (hf : X.fn x = true ∨ X.env.scope.names.lookup x = some .local := by first | exact .inl rfl | exact .inr rfl) : DG X (.Name x pos) [i] (gM i) :=
  ⟨_, pg_name hN hi hx hf, fun hid O B H σ E v d E' r rv hm Q k => by
    cases hm
    exact k _ (r.put i rv) fun vs h => wipe_set σ (h i (List.mem_cons_self ..))⟩
theorem dgs_nil : DGs X [] [] gsNil := ⟨_, pgs_nil, fun hid O B H σ E v d E' r rv hm Q k => by
  unfold gsNil at hm
  split at hm
  · cases hm
    cases rv
    exact ⟨rfl, k σ r fun _ _ => rfl⟩
  · cases hm⟩
theorem dgs_cons {t : Expr} {ts : List Expr} {js ks : List Nat} {mg : En → D → Option En} {mh : En → List D → Option En} (h1 : DG X t js mg) (h2 : DGs X ts ks mh)
    (hs : (assignEach (t :: ts) X.env).map (·.2) = assign t X.env :: (assignEach ts X.env).map (·.2) := by rfl) : DGs X (t :: ts) (js ++ ks) (gsCons mg mh) := ⟨_, pgs_cons h1.pg h2.pg hs, fun hid O B H σ E v d E' r rv hm Q k => by
  unfold gsCons at hm
  split at hm
  · cases rv with
    | cons a b =>
      obtain ⟨E1, q1, q2⟩ := bind_some hm
      refine ⟨_, _, rfl, h1.si hid O B H σ E _ _ E1 r a q1 _ fun σ1 r1 w1 => ?_⟩
      exact h2.si hid O B H σ1 E1 _ _ E' r1 b q2 _ fun σ2 r2 w2 => k σ2 r2 fun vs hv => (w2 vs fun j hj => hv j (List.mem_append_right _ hj)).trans (w1 vs fun j hj => hv j (List.mem_append_left _ hj))
  · cases hm⟩
theorem dg_tup {es : List Expr} {k : Nat} {js : List Nat} {m : En → List D → Option En} {n : Nat} (hc : X.calm = true) (h : DGs X es js m)
    (hn : (assignEach es X.env).length = n := by rfl) (hst : (assignEach es X.env).findIdx? (·.1) = none := by rfl) : DG X (.Tuple es k pos) js (gTupM n m) := ⟨_, pg_tup hc h.pg hn hst, fun hid O B H σ E v d E' r rv hm Q k => by
  unfold gTupM at hm
  split at hm
  · by_cases hl : List.length ‹List D› = n
    · rw [if_pos hl] at hm
      cases rv with
      | tup h1 h2 => exact ⟨_, _, rfl, Evl.ex_t rem_ex h1, by rw [h2.length]; exact hl, h.si hid O B H σ E _ _ E' r h2 hm Q k⟩
    · rw [if_neg hl] at hm
      cases hm
  · cases hm⟩
end

/-! ### comprehensions -/
def runComp (mg : En → D → Option En) (mt : En → Option Bool) (me : En → Option D) (E0 : En) : List D → Option (List D)
  | [] => some []
  | d :: ds => (mg E0 d).bind fun E1 => (mt E1).bind fun b => if b = true then (me E1).bind fun r => (runComp mg mt me E0 ds).map (r :: ·) else runComp mg mt me E0 ds
@[simp] def mComp (vs : List Nat) (mi : En → Option (List D)) (mg : En → D → Option En) (mt : En → Option Bool) (me : En → Option D) : En → Option (List D) :=
  fun E => (mi E).bind fun ds => if ds.length ≤ 100000 then runComp mg mt me (wipeE E vs) ds else none
@[simp] def mYes : En → Option Bool := fun _ => some true
def DTs (X : Cx) (ifs : List Expr) (m : En → Option Bool) : Prop := ∃ tt, PTs X ifs tt ∧ SB X.K tt m
theorem DTs.pt {X : Cx} {ifs : List Expr} {m : En → Option Bool} (h : DTs X ifs m) : PTs X ifs (tBq X.K m) := by
  obtain ⟨te, p, s⟩ := h
  exact ⟨fun pins s0 σ H Q I h => p.run pins s0 σ H Q I (by obtain ⟨hid, O, B, E, d, r, hm, q⟩ := h; exact s hid O B H σ E d r hm Q q)⟩
theorem DTs.si {X : Cx} {ifs : List Expr} {m : En → Option Bool} (h : DTs X ifs m) : SB X.K (tBq X.K m) m := fun hid O B H σ E d r hm Q q => ⟨hid, O, B, E, d, r, hm, q⟩
section
variable {X : Cx}
theorem dts_nil : DTs X [] mYes := ⟨_, pts_nil, fun hid O B H σ E b r hm Q q => by
  cases hm
  exact q H (Ex.refl H)⟩
theorem dts_one {c : Expr} {m : En → Option Bool} (h : DB X c m) : DTs X [c] m := ⟨_, pts_one h.pt, h.si⟩
theorem sf_lc {K : PySem.W.Frag} {wi : TI} {g : TG} {tt : TT} {te : TE} {vs js : List Nat} {mi : En → Option (List D)} {mg : En → D → Option En} {mt : En → Option Bool} {me : En → Option D}
    (hi : SIT K wi mi) (hg : SG K g js mg) (hjs : ∀ j ∈ js, j ∈ vs) (ht : SB K tt mt) (he : SE K te me) : SF K (tLc wi g tt te vs) (mComp vs mi mg mt me) := fun hid O B H σ E out r hm Q q => by
  obtain ⟨ds, h1, hm⟩ := bind_some hm
  have hz : ds.length ≤ 100000 ∧ runComp mg mt me (wipeE E vs) ds = some out := by
    by_cases hz : ds.length ≤ 100000
    · rw [if_pos hz] at hm
      exact ⟨hz, hm⟩
    · rw [if_neg hz] at hm
      cases hm
  obtain ⟨hz, hm⟩ := hz
  refine hi hid O B H σ E ds r h1 _ fun J H2 G Y e2 w hG hY Dl hD => ?_
  have r2 := r.grow e2
  have assoc1 : ∀ a, orS (orS hid O) (· = Dl) a → orS hid (orS O (· = Dl)) a := fun a z => by
    rcases z with (z | z) | z
    · exact .inl z
    · exact .inr (.inl z)
    · exact .inr (.inr z)
  have assoc2 : ∀ a, orS hid (orS O (· = Dl)) a → orS (orS hid O) (· = Dl) a := fun a z => by
    rcases z with z | z | z
    · exact .inl (.inl z)
    · exact .inl (.inr z)
    · exact .inr z
  refine lc_it w (fun i H' => Ex H2 H' ∧ ∃ xs rs rest, H' Dl = some (.lst xs) ∧ RpL K (rem (orS hid (orS O (· = Dl))) H') xs rs ∧ runComp mg mt me (wipeE E vs) (ds.drop i) = some rest ∧ rs ++ rest = out ∧ xs.length ≤ i)
    ⟨Ex.new hD, [], [], out, upd_same, .nil, hm, rfl, Nat.zero_le _⟩ (fun i H' _ p => hG H' p.1) (fun i x H3 H3' hi p y => ?_) (fun H' p => ?_)
  · obtain ⟨e3, xs, rs, rest, g1, g2, g3, g4, g5⟩ := p
    have hdi : ds.drop i = ds[i] :: ds.drop (i + 1) := (List.drop_eq_getElem_cons hi)
    rw [hdi] at g3
    obtain ⟨E1, k1, g3⟩ := bind_some g3
    obtain ⟨b, k2, g3⟩ := bind_some g3
    have rA : RE K hid (orS O (· = Dl)) B H3 σ E := r2.addO hD e3 g1
    have exv : Ex (rem (orS hid O) H2) (rem (orS hid (orS O (· = Dl))) H3) := fun a o z => rem_sub assoc2 _ _ (rem_new hD e3 a o z)
    obtain ⟨e4, rx⟩ := hY i H3 x H3' (orS hid (orS O (· = Dl))) ds[i] y (List.getElem?_eq_getElem hi) exv (fun p hp => rA.fresh hp)
    have rW := (rA.grow e4).wiped vs
    refine hg hid _ B H3' _ _ x ds[i] E1 rW rx k1 _ fun σ2 r3 w3 => ⟨?_, ?_⟩
    · have := w3 vs hjs
      rw [this]
      refine List.ext_getElem? fun j => ?_
      rw [wipe_get, wipe_get, wipe_length]
      by_cases hj : j ∈ vs ∧ j < σ.length
      · rw [if_pos hj, if_pos hj]
      · rw [if_neg hj, if_neg hj]
    · refine ht hid _ B H3' σ2 E1 b r3 k2 _ fun H5 e5 => ?_
      cases b with
      | true =>
        rw [if_pos rfl] at g3 ⊢
        obtain ⟨d, k3, g3⟩ := bind_some g3
        obtain ⟨rest', k4, rfl⟩ := map_some g3
        refine he hid _ B H5 σ2 E1 d (r3.grow e5) k3 _ fun v H6 e6 rv => ?_
        have e36 := (e4.trans e5).trans e6
        refine ⟨xs, e36 Dl _ g1, by have : xs.length < 100000 := by omega
                                    exact size_lt this, Evl.Ex.mut (e3.trans e36) hD, xs ++ [v], rs ++ [d], rest', upd_same, ?_, k4, by rw [List.append_assoc]; exact g4, by rw [List.length_append]; simp only [List.length_singleton]; omega⟩
        exact (((g2.mono (rem_mono e36) _).app (.one rv)).mono (rem_upd (.inr (.inr rfl))) _)
      | false =>
        rw [if_neg Bool.false_ne_true] at g3 ⊢
        have e35 := e4.trans e5
        exact ⟨e3.trans e35, xs, rs, rest, e35 Dl _ g1, g2.mono (rem_mono e35) _, g3, g4, by omega⟩
  · obtain ⟨e3, xs, rs, rest, g1, g2, g3, g4, g5⟩ := p
    rw [List.drop_length] at g3
    cases g3
    rw [List.append_nil] at g4
    subst g4
    exact q Dl xs H' (Evl.fresh_back e2 hD) (e2.trans e3) g1 (g2.mono (rem_sub assoc1) _)
theorem df_lc {elt tg iter : Expr} {ifs : List Expr} {scope : Scope} {own : List (Str × Nat)} {pos : Pos} {js : List Nat} {mi : En → Option (List D)} {mg : En → D → Option En} {mt : En → Option Bool} {me : En → Option D}
    (hc : X.calm = true) (hN : X.N.Nodup) (hi : DIT X tg iter mi) (ok : BlkOk X.N X.env.scope scope own) (hjs : ∀ j ∈ js, j ∈ own.map (·.2))
    (hg : ∀ (s : Shared) (H : Hp) (C : Addr) (cl : List (Str × Addr)) (fp : List Addr), DG (X.blk s H scope (compEnvC scope cl C X.env) fp) tg js mg) (ht : ∀ (s : Shared) (H : Hp) (C : Addr) (cl : List (Str × Addr)) (fp : List Addr), DTs (X.blk s H scope (compEnvC scope cl C X.env) fp) ifs mt)
    (he : ∀ (s : Shared) (H : Hp) (C : Addr) (cl : List (Str × Addr)) (fp : List Addr), DE (X.blk s H scope (compEnvC scope cl C X.env) fp) elt me) (hs : ∀ x, foldedSetIterable iter X.env x = pure x := by intro _; rfl) :
    DF X (.ListComp elt [⟨tg, iter, ifs, 0⟩] scope pos) (mComp (own.map (·.2)) mi mg mt me) :=
  ⟨_, pe_lc hc hN hi.pi ok (fun s H C cl fp => (hg s H C cl fp).pg) (fun s H C cl fp => (ht s H C cl fp).pt) (fun s H C cl fp => (he s H C cl fp).pe) hs,
    sf_lc hi.si (hg X.s_0 X.H_0 0 [] []).si hjs (ht X.s_0 X.H_0 0 [] []).si (he X.s_0 X.H_0 0 [] []).si⟩
end

/-! ### statements -/
inductive Out where
  | nx (E : En) | rt (d : D) | bk (E : En) | ct (E : En) | rf (ds : List D)
def End (K : PySem.W.Frag) (hid : AS) (B : Hp) (Dn : Ends) : Out → Prop
  | .nx E => ∀ O σ H, RE K hid O B H σ E → Dn.nx σ H
  | .rt d => ∀ v H, Ex B H → Rp K (rem hid H) v d → Dn.rt v H
  | .bk E => ∀ O σ H, RE K hid O B H σ E → Dn.bk σ H
  | .ct E => ∀ O σ H, RE K hid O B H σ E → Dn.ct σ H
  | .rf ds => ∀ p xs H, B p = none → Ex B H → H p = some (.lst xs) → RpL K (rem (orS hid (· = p)) H) xs ds → Dn.rt (.ref p) H
def SS (K : PySem.W.Frag) (t : TS) (m : En → Option Out) : Prop := ∀ (hid O : AS) (B H : Hp) (σ : L2.St) (E : En) (o : Out) (Dn : Ends), RE K hid O B H σ E → m E = some o → End K hid B Dn o → t Dn σ H
def tSq (K : PySem.W.Frag) (m : En → Option Out) : TS := fun Dn σ H => ∃ (hid O : AS) (B : Hp) (E : En) (o : Out), RE K hid O B H σ E ∧ m E = some o ∧ End K hid B Dn o
def DS (X : Cx) (st : Stmt) (m : En → Option Out) : Prop := ∃ t, PS X st t ∧ SS X.K t m
def DSs (X : Cx) (sts : List Stmt) (m : En → Option Out) : Prop := ∃ t, PSs X sts t ∧ SS X.K t m
theorem DS.ps {X : Cx} {st : Stmt} {m : En → Option Out} (h : DS X st m) : PS X st (tSq X.K m) := by
  obtain ⟨te, p, s⟩ := h
  exact ⟨fun pins s0 σ H Q I h => p.run pins s0 σ H Q I (by obtain ⟨hid, O, B, E, d, r, hm, q⟩ := h; exact s hid O B H σ E d Q r hm q)⟩
theorem DS.si {X : Cx} {st : Stmt} {m : En → Option Out} (h : DS X st m) : SS X.K (tSq X.K m) m := fun hid O B H σ E d Q r hm q => ⟨hid, O, B, E, d, r, hm, q⟩
theorem DSs.ps {X : Cx} {st : List Stmt} {m : En → Option Out} (h : DSs X st m) : PSs X st (tSq X.K m) := by
  obtain ⟨te, p, s⟩ := h
  exact ⟨fun pins s0 σ H Q I h => p.run pins s0 σ H Q I (by obtain ⟨hid, O, B, E, d, r, hm, q⟩ := h; exact s hid O B H σ E d Q r hm q)⟩
theorem DSs.si {X : Cx} {st : List Stmt} {m : En → Option Out} (h : DSs X st m) : SS X.K (tSq X.K m) m := fun hid O B H σ E d Q r hm q => ⟨hid, O, B, E, d, r, hm, q⟩
@[simp] def mNext : En → Option Out := fun E => some (.nx E)
@[simp] def mSeq (a b : En → Option Out) : En → Option Out := fun E => (a E).bind fun o => match o with
  | .nx E1 => b E1
  | o => some o
section
variable {X : Cx} {pos : Pos} {st : Stmt} {rest : List Stmt} {t u : TS} {m n : En → Option Out}
theorem dss_nil : DSs X [] mNext := ⟨_, pss_nil, fun hid O B H σ E o Dn r hm k => by
  cases hm
  exact k O σ H r⟩
theorem dss_cons (h1 : DS X st m) (h2 : DSs X rest n) : DSs X (st :: rest) (mSeq m n) := ⟨_, pss_cons h1.ps h2.ps, fun hid O B H σ E o Dn r hm k => by
  obtain ⟨o1, e1, hm⟩ := bind_some hm
  refine h1.si hid O B H σ E o1 _ r e1 ?_
  cases o1 with
  | nx E1 => exact fun O' σ' H' r' => h2.si hid O' B H' σ' E1 o Dn r' hm k
  | rt d => cases hm; exact k
  | bk E1 => cases hm; exact k
  | rf E1 => cases hm; exact k
  | ct E1 => cases hm; exact k⟩
theorem dss_one (h1 : DS X st m) : DSs X [st] m := ⟨_, pss_one h1.ps, h1.si⟩
/-- an owned list is let go -/
@[simp] def frzE (i : Nat) (E : En) : En := match E[i]? with
  | some (.ow ds) => E.set i (.fz (.lst ds))
  | _ => E
theorem RE.frzE {K : PySem.W.Frag} {hid O : AS} {B H : Hp} {σ : L2.St} {E : En} (r : RE K hid O B H σ E) (i : Nat) : ∃ O', RE K hid O' B H σ (frzE i E) := by
  unfold Sx.frzE
  split
  · rename_i ds h
    obtain ⟨O', r', _⟩ := r.frz h
    exact ⟨O', r'⟩
  · exact ⟨O, r⟩
@[simp] def mFrz (i : Nat) (m : En → Option Out) : En → Option Out := fun E => m (frzE i E)
theorem ds_frz (i : Nat) (h : DS X st m) : DS X st (mFrz i m) := ⟨_, h.ps, fun hid O B H σ E o Dn r hm k => by
  obtain ⟨O', r'⟩ := r.frzE i
  exact h.si hid O' B H σ _ o Dn r' hm k⟩
theorem ds_pass : DS X (.Pass pos) mNext := ⟨_, ps_pass, fun hid O B H σ E o Dn r hm k => by
  cases hm
  exact k O σ H r⟩
theorem ds_break : DS X (.Break pos) (fun E => some (.bk E)) := ⟨_, ps_break, fun hid O B H σ E o Dn r hm k => by
  cases hm
  exact k O σ H r⟩
theorem ds_continue : DS X (.Continue pos) (fun E => some (.ct E)) := ⟨_, ps_continue, fun hid O B H σ E o Dn r hm k => by
  cases hm
  exact k O σ H r⟩
@[simp] def mRet (m : En → Option D) : En → Option Out := fun E => (m E).map .rt
theorem ds_ret {e : Expr} {m : En → Option D} (h : DT X e m) : DS X (.Return (some e) pos) (mRet m) := ⟨_, ps_ret h.pe, fun hid O B H σ E o Dn r hm k => by
  obtain ⟨d, h1, rfl⟩ := map_some hm
  refine h.si hid O B H σ E d r h1 _ fun v H1 e1 r1 => k v H1 ((r.grow e1).ex) ?_
  rcases r1 with r1 | ⟨p, xs, ds, rfl, rfl, h3, h4, h5⟩
  · exact r1.mono (rem_sub fun a z => .inl z) d
  · exact .lst (rem_some.mpr ⟨(r.own p h3).1, h4⟩) (h5.mono (rem_sub fun a z => .inl z) ds)⟩
/-- a new list is handed back; an owned one -/
@[simp] def mRetF (m : En → Option (List D)) : En → Option Out := fun E => (m E).map .rf
theorem ds_retF {e : Expr} {m : En → Option (List D)} (h : DF X e m) : DS X (.Return (some e) pos) (mRetF m) := ⟨_, ps_ret h.pe, fun hid O B H σ E o Dn r hm k => by
  obtain ⟨ds, h1, rfl⟩ := map_some hm
  exact h.si hid O B H σ E ds r h1 _ fun p xs H1 hp e1 hx r1 => k p xs H1 (Evl.fresh_back r.ex hp) ((r.grow e1).ex) hx (r1.mono (rem_sub fun a z => by
    rcases z with z | z
    · exact .inl (.inl z)
    · exact .inr z) ds)⟩
@[simp] def mRetO (i : Nat) : En → Option Out := fun E => match E[i]? with
  | some (.ow ds) => some (.rf ds)
  | some (.fz d) => some (.rt d)
  | _ => none
theorem ds_retO (i : Nat) {x : Str} {p : Pos} (hN : X.N[i]? = some x := by rfl) (hv : Vis X.env.scope x := by first | exact Or.inl rfl | exact Or.inr (Or.inl rfl) | exact Or.inr (Or.inr rfl)) (hd : (x == ("__debug__" : Str)) = false := by decide)
    (hcd : (x == ("__classdict__" : Str)) = false := by decide) : DS X (.Return (some (.Name x p)) pos) (mRetO i) := ⟨_, ps_ret (pe_var hN hv hd hcd), fun hid O B H σ E o Dn r hm k => by
  unfold mRetO at hm
  split at hm
  · rename_i ds h
    cases hm
    obtain ⟨q, xs, h1, h2, h3, h4⟩ := r.ow i ds h
    refine ⟨.ref q, h1, k q xs H ?_ r.ex h3 (h4.mono (rem_sub fun a z => ?_) ds)⟩
    · cases e : B q with
      | none => rfl
      | some u => exact absurd h2 (r.base q u e).2
    · rcases z with z | z
      · exact .inl z
      · exact .inr (z ▸ h2)
  · rename_i d h
    cases hm
    obtain ⟨v, h1, h2⟩ := r.fz i d h
    exact ⟨v, h1, k v H r.ex (h2.mono (rem_sub fun a z => .inl z) d)⟩
  · cases hm⟩
theorem ds_retN : DS X (.Return none pos) (fun _ => some (.rt .non)) := ⟨_, ps_retN, fun hid O B H σ E o Dn r hm k => by
  cases hm
  exact k .non H r.ex .non⟩
/-- x = e -/
@[simp] def mSet (i : Nat) (m : En → Option D) : En → Option Out := fun E => (m E).map fun d => .nx (E.set i (.fz d))
theorem ds_set (i : Nat) {x : Str} {e : Expr} {m : En → Option D} {pos' : Pos} (hN : X.N.Nodup) (he : DE X e m) (hi : X.N[i]? = some x := by rfl) (hx : Loc X.env.scope x := by first | exact Or.inl rfl | exact Or.inr rfl) (hs : swapsWith e (some (.Name x pos')) pos.line X.env = pure false := by rfl)
    (hf : X.fn x = true ∨ X.env.scope.names.lookup x = some .local := by first | exact .inl rfl | exact .inr rfl) : DS X (.Assign [.Name x pos'] e pos) (mSet i m) := ⟨_, ps_set hN hi hx he.pe hs hf, fun hid O B H σ E o Dn r hm k => by
  obtain ⟨d, h1, rfl⟩ := map_some hm
  exact he.si hid O B H σ E d r h1 _ fun v H1 e1 r1 => k O _ H1 ((r.grow e1).put i r1)⟩
/-- x = e, e a new list that x then owns -/
@[simp] def mSetO (i : Nat) (m : En → Option (List D)) : En → Option Out := fun E => (m E).map fun ds => .nx (E.set i (.ow ds))
theorem ss_setO {K : PySem.W.Frag} (i : Nat) {te : TE} {m : En → Option (List D)} (h : SF K te m) : SS K (tAsg te (gName i)) (mSetO i m) := fun hid O B H σ E o Dn r hm k => by
  obtain ⟨ds, h1, rfl⟩ := map_some hm
  exact h hid O B H σ E ds r h1 _ fun p xs H1 hp e1 hx r1 => k _ _ H1 (r.putO i hp e1 hx r1)
theorem ds_setO (i : Nat) {x : Str} {e : Expr} {m : En → Option (List D)} {pos' : Pos} (hN : X.N.Nodup) (he : DF X e m) (hi : X.N[i]? = some x := by rfl) (hx : Loc X.env.scope x := by first | exact Or.inl rfl | exact Or.inr rfl) (hs : swapsWith e (some (.Name x pos')) pos.line X.env = pure false := by rfl)
    (hf : X.fn x = true ∨ X.env.scope.names.lookup x = some .local := by first | exact .inl rfl | exact .inr rfl) : DS X (.Assign [.Name x pos'] e pos) (mSetO i m) := ⟨_, ps_set hN hi hx he.pe hs hf, ss_setO i he.si⟩
/-- targets = e -/
@[simp] def mAsg (g : En → D → Option En) (m : En → Option D) : En → Option Out := fun E => (m E).bind fun d => (g E d).map .nx
theorem ds_asg {tg e : Expr} {js : List Nat} {m : En → Option D} {mg : En → D → Option En} (he : DE X e m) (hg : DG X tg js mg) (hs : swapsWithSole [tg] e pos.line X.env = pure false := by rfl) (hw : swappedStores [tg] e X.env = pure none := by rfl)
    (h1 : (assignEach [tg] X.env).map (·.2) = [assign tg X.env] := by rfl) : DS X (.Assign [tg] e pos) (mAsg mg m) := ⟨_, ps_asg he.pe hg.pg hs hw h1, fun hid O B H σ E o Dn r hm k => by
  obtain ⟨d, h1, hm⟩ := bind_some hm
  obtain ⟨E', h2, rfl⟩ := map_some hm
  exact he.si hid O B H σ E d r h1 _ fun v H1 e1 r1 => hg.si hid O B H1 σ E v d E' (r.grow e1) r1 h2 _ fun σ' r' _ => k O σ' H1 r'⟩
/-- e as a statement -/
@[simp] def mDrop (m : En → Option D) : En → Option Out := fun E => (m E).map fun _ => .nx E
theorem ds_expr {e : Expr} {m : En → Option D} (he : DE X e m) (hs : swapsWith e none pos.line X.env = pure false := by rfl) : DS X (.Expr e pos) (mDrop m) := ⟨_, ps_expr he.pe hs, fun hid O B H σ E o Dn r hm k => by
  obtain ⟨d, h1, rfl⟩ := map_some hm
  exact he.si hid O B H σ E d r h1 _ fun v H1 e1 r1 => k O σ H1 (r.grow e1)⟩
@[simp] def mIfS (c : En → Option Bool) (a b : En → Option Out) : En → Option Out := fun E => (c E).bind fun k => if k = true then a E else b E
theorem ds_if {c : Expr} {a b : List Stmt} {mc : En → Option Bool} (hc : DB X c mc) (ha : DSs X a m) (hb : DSs X b n) : DS X (.If c a b pos) (mIfS mc m n) := ⟨_, ps_if hc.pt ha.ps hb.ps, fun hid O B H σ E o Dn r hm k => by
  obtain ⟨b, h1, hm⟩ := bind_some hm
  refine hc.si hid O B H σ E b r h1 _ fun H1 e1 => ?_
  cases b with
  | true =>
    rw [if_pos rfl] at hm ⊢
    exact ha.si hid O B H1 σ E o Dn (r.grow e1) hm k
  | false =>
    rw [if_neg Bool.false_ne_true] at hm ⊢
    exact hb.si hid O B H1 σ E o Dn (r.grow e1) hm k⟩
/-! loops -/
def runFor (mg : En → D → Option En) (mb : En → Option Out) : List D → En → Option Out
  | [], E => some (.nx E)
  | d :: ds, E => (mg E d).bind fun E1 => (mb E1).bind fun o => match o with
    | .nx E2 => runFor mg mb ds E2
    | .ct E2 => runFor mg mb ds E2
    | .bk E2 => some (.nx E2)
    | .rt r => some (.rt r)
    | .rf r => some (.rf r)
@[simp] def mFor (mi : En → Option (List D)) (mg : En → D → Option En) (mb : En → Option Out) : En → Option Out := fun E => (mi E).bind fun ds => runFor mg mb ds E
theorem ss_for {K : PySem.W.Frag} {wi : TI} {g : TG} {tb : TS} {js : List Nat} {mi : En → Option (List D)} {mg : En → D → Option En} {mb : En → Option Out} (hi : SI K wi mi) (hg : SG K g js mg) (hb : SS K tb mb) : SS K (tFor wi g tb) (mFor mi mg mb) := fun hid O B H σ E o Dn r hm k => by
  obtain ⟨ds, h1, hm⟩ := bind_some hm
  refine hi hid O B H σ E ds r h1 _ fun J H2 G Y e2 w hG hY => ?_
  have r2 := r.grow e2
  have rb := r2.rebase
  have back : ∀ {O' H' σ' E'}, RE K hid O' (rem O H2) H' σ' E' → RE K hid O' B H' σ' E' := fun q => q.back r2.old r.hidd
  have vis : ∀ {O' H' σ' E'}, RE K hid O' (rem O H2) H' σ' E' → Ex (rem (orS hid O) H2) (rem (orS hid O') H') := fun q a u z => by
    obtain ⟨z1, z2⟩ := rem_some.mp z
    obtain ⟨z3, z4⟩ := q.base a u (rem_some.mpr ⟨fun y => z1 (.inr y), z2⟩)
    refine rem_some.mpr ⟨fun y => ?_, z3⟩
    rcases y with y | y
    · exact z1 (.inl y)
    · exact z4 y
  refine for_it w (fun i σ' H' => ∃ O' E', RE K hid O' (rem O H2) H' σ' E' ∧ runFor mg mb (ds.drop i) E' = some o) ⟨O, E, rb, hm⟩ (fun i σ' H' _ p => ?_) (fun i x σ' H3 H4 hi p y => ?_) (fun σ' H' p => ?_)
  · obtain ⟨O', E', q, _⟩ := p
    exact hG H' (Ex.trans (vis q) rem_ex)
  · obtain ⟨O', E', q, hr⟩ := p
    rw [List.drop_eq_getElem_cons hi] at hr
    obtain ⟨E1, k1, hr⟩ := bind_some hr
    obtain ⟨o1, k2, hr⟩ := bind_some hr
    obtain ⟨e4, rx⟩ := hY i H3 x H4 (orS hid O') ds[i] y (List.getElem?_eq_getElem hi) (vis q) fun p hp => q.fresh hp
    refine hg hid O' (rem O H2) H4 σ' E' x ds[i] E1 (q.grow e4) rx k1 _ fun σ2 r3 _ => ?_
    refine hb hid O' (rem O H2) H4 σ2 E1 o1 _ r3 k2 ?_
    cases o1 with
    | nx E2 => exact fun O5 σ5 H5 r5 => ⟨O5, E2, r5, hr⟩
    | ct E2 => exact fun O5 σ5 H5 r5 => ⟨O5, E2, r5, hr⟩
    | bk E2 => cases hr; exact fun O5 σ5 H5 r5 => k O5 σ5 H5 (back r5)
    | rt d => cases hr; exact fun v H5 e5 r5 => k v H5 (Ex.trans (Ex.trans r2.old (Ex.refl _)) e5) r5
    | rf d => cases hr; exact fun p xs H5 hp e5 hx r5 => k p xs H5 (Evl.fresh_back r2.old hp) (Ex.trans r2.old e5) hx r5
  · obtain ⟨O', E', q, hr⟩ := p
    rw [List.drop_length] at hr
    cases hr
    exact k O' σ' H' (back q)
theorem ds_for {tg iter : Expr} {body : List Stmt} {js : List Nat} {mi : En → Option (List D)} {mg : En → D → Option En} {mb : En → Option Out} (hp : PassesOwn (model X.prog X.w) X.A X.env X.xe) (hc : X.calm = true) (hi : DI X tg iter mi) (hg : DG X tg js mg) (hb : DSs X body mb)
    (hs : ∀ x, foldedSetIterable iter X.env x = pure x := by intro _; rfl) : DS X (.For tg iter body [] pos) (mFor mi mg mb) := ⟨_, ps_for hp hc hi.pi hg.pg hb.ps hs, ss_for hi.si hg.si hb.si⟩
def runWhile (mc : En → Option Bool) (mb : En → Option Out) : Nat → En → Option Out
  | 0, _ => none
  | n + 1, E => (mc E).bind fun b => if b = true then (mb E).bind fun o => match o with
    | .nx E2 => runWhile mc mb n E2
    | .ct E2 => runWhile mc mb n E2
    | .bk E2 => some (.nx E2)
    | .rt r => some (.rt r)
    | .rf r => some (.rf r)
    else some (.nx E)
def mWhile (fuel : Nat) (mc : En → Option Bool) (mb : En → Option Out) : En → Option Out := fun E => runWhile mc mb fuel E
theorem ss_while {K : PySem.W.Frag} (fuel : Nat) {tc : TT} {tb : TS} {mc : En → Option Bool} {mb : En → Option Out} (hc : SB K tc mc) (hb : SS K tb mb) : SS K (tWhile tc tb) (mWhile fuel mc mb) := fun hid O B H σ E o Dn r hm k => by
  refine ⟨fun n σ' H' => ∃ O' E', RE K hid O' B H' σ' E' ∧ runWhile mc mb n E' = some o, ⟨fuel, O, E, r, hm⟩, fun n σ' H' p => ?_⟩
  obtain ⟨O', E', q, hr⟩ := p
  cases n with
  | zero => cases hr
  | succ n =>
    obtain ⟨b, k1, hr⟩ := bind_some hr
    refine hc hid O' B H' σ' E' b q k1 _ fun H1 e1 => ?_
    cases b with
    | true =>
      rw [if_pos rfl] at hr ⊢
      obtain ⟨o1, k2, hr⟩ := bind_some hr
      refine ⟨fun σ2 H2 => ∃ O2 E2, RE K hid O2 B H2 σ2 E2 ∧ runWhile mc mb n E2 = some o, fun σ2 H2 z => ⟨n, Nat.lt_succ_self n, z⟩, ?_⟩
      refine hb hid O' B H1 σ' E' o1 _ (q.grow e1) k2 ?_
      cases o1 with
      | nx E2 => exact fun O5 σ5 H5 r5 => ⟨O5, E2, r5, hr⟩
      | ct E2 => exact fun O5 σ5 H5 r5 => ⟨O5, E2, r5, hr⟩
      | bk E2 => cases hr; exact k
      | rf E2 => cases hr; exact k
      | rt d => cases hr; exact k
    | false =>
      rw [if_neg Bool.false_ne_true] at hr ⊢
      cases hr
      exact k O' σ' H1 (q.grow e1)
theorem ds_while (fuel : Nat) {c : Expr} {body : List Stmt} {mc : En → Option Bool} {mb : En → Option Out} (hp : PassesOwn (model X.prog X.w) X.A X.env X.xe) (hc : DB X c mc) (hb : DSs X body mb) : DS X (.While c body [] pos) (mWhile fuel mc mb) :=
  ⟨_, ps_while hp hc.pt hb.ps, ss_while fuel hc.si hb.si⟩
end
end Sx

set_option Elab.async false
set_option linter.all false
set_option maxRecDepth 100000
set_option maxHeartbeats 1000000
namespace Sx
open PySem PySem.Spec PyProof.Rows L2
open Evl (Ex)

/-! ### built-in functions -/
section
variable {X : Cx} {a b : Expr} {ta tb : TE} {ma mb : En → Option D} {p pos : Pos}
/-- one argument -/
theorem se_call1 {K : PySem.W.Frag} {r : List V → Hp → VK → Prop} {f : D → Option D} (ha : ST K ta ma)
    (h : ∀ (hid O : AS) (H : Hp) (v : V) (x d : D), Al hid O H → Tv K hid O H v x → f x = some d → ∀ Q : VK, (∀ w H', Ex H H' → Rp K (rem (orS hid O) H') w d → Q w H') → r [v] H Q) : SE K (tCB r (tCons ta tNil)) (mUn f ma) := fun hid O B H σ E d re hm Q q => by
  obtain ⟨x, h1, hm⟩ := bind_some hm
  refine ha hid O B H σ E x re h1 _ fun v H1 e1 r1 => ?_
  exact h hid O H1 v x d (al_of (re.grow e1)) r1 hm Q fun w H2 e2 r2 => q w H2 (e1.trans e2) r2
abbrev rLenQ (K : PySem.W.Frag) : List V → Hp → VK → Prop := fun xs H Q => ∃ p ys, xs = [V.ref p] ∧ (SqL K H p ys ∨ SqT K H p ys) ∧ Q (.int ys.length) H
abbrev rLenS : List V → Hp → VK → Prop := fun xs H Q => ∃ z : Str, xs = [V.str z] ∧ z.length ≤ sizeLine ∧ Q (.int z.length) H
abbrev rLenAll (K : PySem.W.Frag) : List V → Hp → VK → Prop := fun xs H Q => rLenQ K xs H Q ∨ rLenS xs H Q
@[simp] def lenD : D → Option D
  | .lst ds => some (.int ds.length)
  | .tup ds => some (.int ds.length)
  | .scr ns => some (.int ns.length)
  | .str z => if z.length ≤ 100000 then some (.int z.length) else none
  | _ => none
theorem de_len (hm : X.mg "len" = none) (ha : DT X a ma) (hg : Gl X "len" := by rfl) (hs : starEach [a] X.env = (false, eval a X.env) :: starEach [] X.env := by rfl) (hpl : (backTo pos (starEach [] X.env)).any (·.1) = false := by rfl) :
    DE X (.Call (.Name "len" p) [a] [] pos) (mUn lenD ma) := ⟨_, pe_callB (CallR.or call_len_seq call_len_str) hg hm PySem.boot_len (pa_cons ha.pe pa_nil hs) (by decide) (by decide) hs hpl, se_call1 ha.si fun hid O H v x d al rv hx Q q => by
  unfold lenD at hx
  split at hx
  · cases hx
    obtain ⟨p, xs, rfl, h1, h2⟩ := rv.seq
    refine .inl ⟨p, xs, rfl, .inl h1, ?_⟩
    rw [h2.length]
    exact q _ H (Ex.refl H) (.int _)
  · cases hx
    obtain ⟨p, xs, rfl, h1, h2⟩ := rv.tup
    refine .inl ⟨p, xs, rfl, .inr (Evl.ex_t rem_ex h1), ?_⟩
    rw [h2.length]
    exact q _ H (Ex.refl H) (.int _)
  · cases hx
    obtain ⟨p, rfl, h1⟩ := rv.scr
    refine .inl ⟨p, _, rfl, .inl h1, ?_⟩
    rw [List.length_map]
    exact q _ H (Ex.refl H) (.int _)
  · obtain ⟨h1, rfl⟩ := ite_some hx
    obtain rfl := rv.str
    exact .inr ⟨_, rfl, size_le h1, q _ H (Ex.refl H) (.int _)⟩
  · cases hx⟩
/-- int(x) of an int, of a bool -/
@[simp] def intD : D → Option D
  | .int i => some (.int i)
  | .bl b => some (.int (if b = true then 1 else 0))
  | _ => none
theorem de_int1 (hm : X.mg "int" = none) (ha : DT X a ma) (hg : Gl X "int" := by rfl) (hs : starEach [a] X.env = (false, eval a X.env) :: starEach [] X.env := by rfl) (hpl : (backTo pos (starEach [] X.env)).any (·.1) = false := by rfl) :
    DE X (.Call (.Name "int" p) [a] [] pos) (mUn intD ma) := ⟨_, pe_callTy call_int1 hg hm boot_int (pa_cons ha.pe pa_nil hs) (by decide) (by decide) hs hpl, se_call1 ha.si fun hid O H v x d al rv hx Q q => by
  unfold intD at hx
  split at hx
  · cases hx
    exact .inl ⟨_, by rw [rv.int], q _ H (Ex.refl H) (.int _)⟩
  · cases hx
    exact .inr ⟨_, by rw [rv.bl], q _ H (Ex.refl H) (.int _)⟩
  · cases hx⟩
@[simp] def minD : D → D → Option D
  | .int i, .int j => some (.int (if j < i then j else i))
  | _, _ => none
@[simp] def maxD : D → D → Option D
  | .int i, .int j => some (.int (if j > i then j else i))
  | _, _ => none
theorem de_min2 (hc : X.calm = true) (hm : X.mg "min" = none) (ha : DT X a ma) (hb : DT X b mb) (hg : Gl X "min" := by rfl) (hs : starEach [a, b] X.env = (false, eval a X.env) :: starEach [b] X.env := by rfl) (hs2 : starEach [b] X.env = (false, eval b X.env) :: starEach [] X.env := by rfl) (hpl : (backTo pos (starEach [b] X.env)).any (·.1) = false := by rfl) :
    DE X (.Call (.Name "min" p) [a, b] [] pos) (mBin minD ma mb) := ⟨_, pe_callB (call_min2 hc) hg hm (by decide +kernel) (pa_cons ha.pe (pa_cons hb.pe pa_nil hs2) hs) (by decide) (by decide) hs hpl, fun hid O B H σ E d re hm Q q => by
  obtain ⟨x, h1, hm⟩ := bind_some hm
  obtain ⟨y, h2, hm⟩ := bind_some hm
  unfold minD at hm
  split at hm
  · cases hm
    refine ha.si hid O B H σ E _ re h1 _ fun v H1 e1 r1 => ?_
    refine hb.si hid O B H1 σ E _ (re.grow e1) h2 _ fun u H2 e2 r2 => ?_
    exact ⟨_, _, by rw [r1.int, r2.int], q _ H2 (e1.trans e2) (.int _)⟩
  · cases hm⟩
theorem de_max2 (hc : X.calm = true) (hm : X.mg "max" = none) (ha : DT X a ma) (hb : DT X b mb) (hg : Gl X "max" := by rfl) (hs : starEach [a, b] X.env = (false, eval a X.env) :: starEach [b] X.env := by rfl) (hs2 : starEach [b] X.env = (false, eval b X.env) :: starEach [] X.env := by rfl) (hpl : (backTo pos (starEach [b] X.env)).any (·.1) = false := by rfl) :
    DE X (.Call (.Name "max" p) [a, b] [] pos) (mBin maxD ma mb) := ⟨_, pe_callB (call_max2 hc) hg hm (by decide +kernel) (pa_cons ha.pe (pa_cons hb.pe pa_nil hs2) hs) (by decide) (by decide) hs hpl, fun hid O B H σ E d re hm Q q => by
  obtain ⟨x, h1, hm⟩ := bind_some hm
  obtain ⟨y, h2, hm⟩ := bind_some hm
  unfold maxD at hm
  split at hm
  · cases hm
    refine ha.si hid O B H σ E _ re h1 _ fun v H1 e1 r1 => ?_
    refine hb.si hid O B H1 σ E _ (re.grow e1) h2 _ fun u H2 e2 r2 => ?_
    exact ⟨_, _, by rw [r1.int, r2.int], q _ H2 (e1.trans e2) (.int _)⟩
  · cases hm⟩
/-! lists of ints -/
def allInts : List D → Option (List Int)
  | [] => some []
  | .int i :: ds => (allInts ds).map (i :: ·)
  | _ :: _ => none
theorem allInts_some : ∀ {ds : List D} {ns : List Int}, allInts ds = some ns → ds = ns.map .int
  | [], ns, h => by cases h; rfl
  | .int i :: ds, ns, h => by
    obtain ⟨ms, h1, rfl⟩ := map_some (show (allInts ds).map (i :: ·) = some ns from h)
    rw [allInts_some h1]
    rfl
  | .non :: ds, ns, h => by cases h
  | .bl _ :: ds, ns, h => by cases h
  | .str _ :: ds, ns, h => by cases h
  | .lst _ :: ds, ns, h => by cases h
  | .tup _ :: ds, ns, h => by cases h
  | .scr _ :: ds, ns, h => by cases h
theorem allInts_map : ∀ (ns : List Int), allInts (ns.map .int) = some ns
  | [] => rfl
  | n :: ns => by
    show (allInts (ns.map .int)).map (n :: ·) = _
    rw [allInts_map ns]
    rfl
@[simp] def intsOf : D → Option (List Int)
  | .lst ds => allInts ds
  | .scr ns => some ns
  | _ => none
theorem ints_tv {K : PySem.W.Frag} {hid O : AS} {H : Hp} {v : V} {x : D} {ns : List Int} (rv : Tv K hid O H v x) (h : intsOf x = some ns) : ∃ p, v = .ref p ∧ SqL K H p (ns.map V.int) := by
  unfold intsOf at h
  split at h
  · obtain ⟨p, xs, rfl, h1, h2⟩ := rv.seq
    rw [allInts_some h] at h2
    rw [RpL.ints_of h2] at h1
    exact ⟨p, rfl, h1⟩
  · cases h
    exact rv.scr
  · cases h
@[simp] def sumD (d : D) : Option D := (intsOf d).map fun ns => .int ns.sum
theorem de_sum (hc : X.calm = true) (hm : X.mg "sum" = none) (ha : DT X a ma) (hg : Gl X "sum" := by rfl) (hs : starEach [a] X.env = (false, eval a X.env) :: starEach [] X.env := by rfl) (hpl : (backTo pos (starEach [] X.env)).any (·.1) = false := by rfl) :
    DE X (.Call (.Name "sum" p) [a] [] pos) (mUn sumD ma) := ⟨_, pe_callB (cr_sum hc) hg hm (by decide +kernel) (pa_cons ha.pe pa_nil hs) (by decide) (by decide) hs hpl, se_call1 ha.si fun hid O H v x d al rv hx Q q => by
  obtain ⟨ns, h1, rfl⟩ := map_some hx
  obtain ⟨p, rfl, h2⟩ := ints_tv rv h1
  exact ⟨p, ns, rfl, h2, q _ H (Ex.refl H) (.int _)⟩⟩
/-- list(x) of a list, of a tuple -/
@[simp] def seqOf : D → Option (List D)
  | .lst ds => some ds
  | .tup ds => some ds
  | .scr ns => some (ns.map .int)
  | _ => none
theorem df_list (hm : X.mg "list" = none) (ha : DT X a ma) (hg : Gl X "list" := by rfl) (hs : starEach [a] X.env = (false, eval a X.env) :: starEach [] X.env := by rfl) (hpl : (backTo pos (starEach [] X.env)).any (·.1) = false := by rfl) :
    DF X (.Call (.Name "list" p) [a] [] pos) (fun E => (ma E).bind seqOf) := ⟨_, pe_callTy call_list_of hg hm (by decide +kernel) (pa_cons ha.pe pa_nil hs) (by decide) (by decide) hs hpl, fun hid O B H σ E ds re hm Q q => by
  obtain ⟨x, h1, hm⟩ := bind_some hm
  refine ha.si hid O B H σ E _ re h1 _ fun v H1 e1 r1 => ?_
  unfold seqOf at hm
  split at hm
  · cases hm
    obtain ⟨p, xs, rfl, h1, h2⟩ := r1.seq
    refine ⟨p, xs, rfl, .inl h1, fun l hl => ?_⟩
    have ex : Ex H1 (upd H1 l (.lst xs)) := Ex.new hl
    exact q l _ _ (Evl.fresh_back e1 hl) (e1.trans ex) upd_same (h2.mono (rem_new hl ex) _)
  · cases hm
    obtain ⟨p, xs, rfl, h1, h2⟩ := r1.tup
    refine ⟨p, xs, rfl, .inr (Evl.ex_t rem_ex h1), fun l hl => ?_⟩
    have ex : Ex H1 (upd H1 l (.lst xs)) := Ex.new hl
    exact q l _ _ (Evl.fresh_back e1 hl) (e1.trans ex) upd_same (h2.mono (rem_new hl ex) _)
  · cases hm
    obtain ⟨p, rfl, h1⟩ := r1.scr
    refine ⟨p, _, rfl, .inl h1, fun l hl => ?_⟩
    exact q l _ _ (Evl.fresh_back e1 hl) (e1.trans (Ex.new hl)) upd_same (RpL.ints _)
  · cases hm⟩
/-- tuple(x) of a list, of a tuple -/
@[simp] def tupleD : D → Option D
  | .lst ds => some (.tup ds)
  | .tup ds => some (.tup ds)
  | _ => none
theorem de_tuple (hm : X.mg "tuple" = none) (ha : DT X a ma) (hg : Gl X "tuple" := by rfl) (hs : starEach [a] X.env = (false, eval a X.env) :: starEach [] X.env := by rfl) (hpl : (backTo pos (starEach [] X.env)).any (·.1) = false := by rfl) :
    DE X (.Call (.Name "tuple" p) [a] [] pos) (mUn tupleD ma) := ⟨_, pe_callTy call_tuple_of hg hm (by decide +kernel) (pa_cons ha.pe pa_nil hs) (by decide) (by decide) hs hpl, se_call1 ha.si fun hid O H v x d al rv hx Q q => by
  unfold tupleD at hx
  split at hx
  · cases hx
    obtain ⟨p, xs, rfl, h1, h2⟩ := rv.seq
    refine ⟨p, xs, rfl, .inl ⟨h1, fun l hl => ?_⟩⟩
    have ex : Ex H (upd H l (.tup xs)) := Ex.new hl
    exact q _ _ ex (.tup (Evl.st_of (vis_new (al l hl) upd_same)) (h2.mono (rem_mono ex) _))
  · cases hx
    obtain ⟨p, xs, rfl, h1, h2⟩ := rv.tup
    exact ⟨p, xs, rfl, .inr ⟨Evl.ex_t rem_ex h1, q _ H (Ex.refl H) (.tup h1 h2)⟩⟩
  · cases hx⟩
/-! sorted -/
def insI (x : Int) : List Int → List Int
  | [] => [x]
  | y :: ys => if x ≤ y then x :: y :: ys else y :: insI x ys
def sortI : List Int → List Int
  | [] => []
  | x :: xs => insI x (sortI xs)
theorem insI_perm (x : Int) : ∀ ys, (insI x ys).Perm (x :: ys)
  | [] => .refl _
  | y :: ys => by
    unfold insI
    split
    · exact .refl _
    · exact ((insI_perm x ys).cons y).trans (.swap x y ys)
theorem sortI_perm : ∀ xs, (sortI xs).Perm xs
  | [] => .refl _
  | x :: xs => (insI_perm x (sortI xs)).trans ((sortI_perm xs).cons x)
theorem insI_le {x : Int} : ∀ {ys : List Int}, ys.Pairwise (· ≤ ·) → (insI x ys).Pairwise (· ≤ ·)
  | [], _ => List.pairwise_singleton _ _
  | y :: ys, h => by
    unfold insI
    obtain ⟨h1, h2⟩ := List.pairwise_cons.mp h
    split
    · rename_i hx
      refine List.pairwise_cons.mpr ⟨fun z hz => ?_, h⟩
      rcases List.mem_cons.mp hz with e | e
      · rw [e]; exact hx
      · exact Int.le_trans hx (h1 z e)
    · rename_i hx
      refine List.pairwise_cons.mpr ⟨fun z hz => ?_, insI_le h2⟩
      rcases List.mem_cons.mp ((insI_perm x ys).mem_iff.mp hz) with e | e
      · rw [e]; omega
      · exact h1 z e
theorem sortI_le : ∀ xs : List Int, (sortI xs).Pairwise (· ≤ ·)
  | [] => .nil
  | x :: xs => insI_le (sortI_le xs)
theorem sorted_uniq : ∀ {xs ys : List Int}, xs.Perm ys → xs.Pairwise (· ≤ ·) → ys.Pairwise (· ≤ ·) → xs = ys
  | [], ys, p, _, _ => by rw [List.nil_perm.mp p]
  | x :: xs, [], p, _, _ => by
    have := p.length_eq
    simp at this
  | x :: xs, y :: ys, p, h1, h2 => by
    obtain ⟨a1, a2⟩ := List.pairwise_cons.mp h1
    obtain ⟨b1, b2⟩ := List.pairwise_cons.mp h2
    have e : x = y := by
      have hx : x ∈ y :: ys := p.mem_iff.mp (List.mem_cons_self ..)
      have hy : y ∈ x :: xs := p.mem_iff.mpr (List.mem_cons_self ..)
      have l1 : y ≤ x := by
        rcases List.mem_cons.mp hx with z | z
        · rw [z]; exact Int.le_refl _
        · exact b1 x z
      have l2 : x ≤ y := by
        rcases List.mem_cons.mp hy with z | z
        · rw [z]; exact Int.le_refl _
        · exact a1 y z
      omega
    subst e
    rw [sorted_uniq p.cons_inv a2 b2]
theorem df_sorted (hm : X.mg "sorted" = none) (ha : DT X a ma) (hg : Gl X "sorted" := by rfl) (hs : starEach [a] X.env = (false, eval a X.env) :: starEach [] X.env := by rfl) (hpl : (backTo pos (starEach [] X.env)).any (·.1) = false := by rfl) :
    DF X (.Call (.Name "sorted" p) [a] [] pos) (fun E => ((ma E).bind intsOf).map fun ns => (sortI ns).map .int) := ⟨_, pe_callB cr_sortedI hg hm (by decide +kernel) (pa_cons ha.pe pa_nil hs) (by decide) (by decide) hs hpl, fun hid O B H σ E ds re hm Q q => by
  obtain ⟨ns, h1, rfl⟩ := map_some hm
  obtain ⟨x, h0, h1⟩ := bind_some h1
  refine ha.si hid O B H σ E _ re h0 _ fun v H1 e1 r1 => ?_
  obtain ⟨p, rfl, h2⟩ := ints_tv r1 h1
  refine ⟨p, ns, rfl, h2, fun ns' l hp hs hl => ?_⟩
  rw [sorted_uniq (hp.trans (sortI_perm ns).symm) hs (sortI_le ns)]
  exact q l _ _ (Evl.fresh_back e1 hl) (e1.trans (Ex.new hl)) upd_same (RpL.ints _)⟩
/-! len(set(list of ints)) -/
def tLenSetX (K : PySem.W.Frag) (ta : TE) : TE := fun σ H Q => ta σ H fun x H1 => ∃ (l : Addr) (ns : List Int), x = V.ref l ∧ SqL K H1 l (ns.map V.int) ∧ ns.length < 4000 ∧ Q (.int (firstMet (fun i => ns.getD i 0) ns.length).length) H1
theorem pe_lenSetX {p2 q : Pos} (hc : X.calm = true) (hg : Gl X "len") (hm : X.mg "len" = none) (hg2 : Gl X "set") (hm2 : X.mg "set" = none) (ha : PE X a ta)
    (na : starEach [a] X.env = (false, eval a X.env) :: starEach [] X.env := by rfl) : PE X (.Call (.Name "len" p) [.Call (.Name "set" p2) [a] [] q] [] pos) (tLenSetX X.K ta) := by
  refine ⟨fun pins s σ H Q I h => ?_⟩
  refine Call_ (ld_blt I hg hm PySem.boot_len ?_)
  refine PyProof.Rows.callWith_builtin1 (PyProof.Rows.args_cons ?_ rfl) rfl rfl
  refine Call_ (ld_blt I hg2 hm2 PyProof.Rows.boot_set ?_)
  refine PyProof.Rows.callWith_type1 (PyProof.Rows.args_cons (thn (ha.run pins s σ H _ I h) fun v s1 ⟨x, H1, I1, r1, q1⟩ => PyProof.Rows.args_nil ?_) na) na rfl
  obtain ⟨l, ns, rfl, hq, h1, q1⟩ := q1
  cases r1
  obtain ⟨its, r, pl, hz⟩ := I1.list hq
  have hl : its.toArray.size = ns.length := by rw [List.size_toArray, ← r.length, List.length_map]
  refine call_set_list (I1.ok.hd hc) pl.isList (ns := ns) (by simpa using r.ints) (by unfold scanBound; omega) fun h' tk hS hk => ?_
  rw [hl] at hS
  refine PyProof.Rows.args_nil ?_
  obtain ⟨o, es, ep, t, ho, hex, hd, _, _, _, hf, hn⟩ := hS
  have I2 : Inv X pins σ H1 { s1 with heap := h', toks := tk } := I1.kept fun b o e => hk b o (Heap.lt_size e) e
  have hle := firstMet_length_le (fun i => ns.getD i 0) ns.length
  refine call_len_set ho hex hd hf (by rw [hn] <;> omega) ⟨.int (firstMet (fun i => ns.getD i 0) ns.length).length, H1, I2.tok _, ⟨_, by rw [hn]⟩, q1⟩
@[simp] def lenSetD (d : D) : Option D := (intsOf d).bind fun ns => if ns.length < 4000 then some (.int (firstMet (fun i => ns.getD i 0) ns.length).length) else none
theorem de_lenSet {p2 q : Pos} (hc : X.calm = true) (hm : X.mg "len" = none) (hm2 : X.mg "set" = none) (ha : DT X a ma) (hg : Gl X "len" := by rfl) (hg2 : Gl X "set" := by rfl) (na : starEach [a] X.env = (false, eval a X.env) :: starEach [] X.env := by rfl) :
    DE X (.Call (.Name "len" p) [.Call (.Name "set" p2) [a] [] q] [] pos) (mUn lenSetD ma) := ⟨_, pe_lenSetX hc hg hm hg2 hm2 ha.pe na, fun hid O B H σ E d re hm Q q => by
  obtain ⟨x, h1, hm⟩ := bind_some hm
  obtain ⟨ns, h2, hm⟩ := bind_some hm
  obtain ⟨h3, rfl⟩ := ite_some hm
  refine ha.si hid O B H σ E _ re h1 _ fun v H1 e1 r1 => ?_
  obtain ⟨p, rfl, h4⟩ := ints_tv r1 h2
  exact ⟨p, ns, rfl, h4, h3, q _ H1 e1 (.int _)⟩⟩
/-! isinstance of a built-in type -/
@[simp] def tyName : D → String
  | .non => "NoneType"
  | .bl _ => "bool"
  | .int _ => "int"
  | .str _ => "str"
  | .lst _ => "list"
  | .tup _ => "tuple"
  | .scr _ => "list"
theorem tyX_of {K : PySem.W.Frag} {hid O : AS} {H : Hp} {v : V} {d : D} (rv : Tv K hid O H v d) : TyX K H v (.type (tyName d)) := by
  cases d with
  | non => rw [rv.non]; exact .base .non
  | bl b => rw [rv.bl]; exact .base (.bl b)
  | int b => rw [rv.int]; exact .base (.int b)
  | str b => rw [rv.str]; exact .base (.str b)
  | lst ds =>
    obtain ⟨p, xs, rfl, h1, h2⟩ := rv.lst
    exact .base (.lst h1)
  | tup ds =>
    obtain ⟨p, xs, rfl, h1, h2⟩ := rv.tup
    rcases (Evl.ex_t (K := K) rem_ex h1) with (h | ⟨o, h⟩) | ⟨o, its, n, h, hc, _⟩
    · exact .base (.tup h)
    · exact .fTuple h
    · exact .kTuple h hc
  | scr ns =>
    obtain ⟨p, rfl, h1⟩ := rv.scr
    rcases h1 with (h | ⟨o, h⟩) | ⟨o, its, n, h, hc, _⟩
    · exact .base (.lst h)
    · exact .base (.frz h)
    · exact .kList h hc
@[simp] def isiD (T : String) (d : D) : Option D := (kitB (tyName d) T).map .bl
theorem de_isi {T : Str} {T' : String} {p2 : Pos} (hm : X.mg "isinstance" = none) (hm2 : X.mg T = none) (hv : bootBuiltins T = some (.type T')) (ha : DT X a ma) (hg : Gl X "isinstance" := by rfl) (hg2 : Gl X T := by rfl) (hn : T ≠ "__name__" := by decide) (hd : (T == ("__debug__" : Str)) = false := by decide)
    (hs : starEach [a, .Name T p2] X.env = (false, eval a X.env) :: starEach [.Name T p2] X.env := by rfl) (hs2 : starEach [.Name T p2] X.env = (false, eval (.Name T p2) X.env) :: starEach [] X.env := by rfl) (hpl : (backTo pos (starEach [.Name T p2] X.env)).any (·.1) = false := by rfl) :
    DE X (.Call (.Name "isinstance" p) [a, .Name T p2] [] pos) (mUn (isiD T') ma) := ⟨_, pe_callB call_isi hg hm (by decide +kernel) (pa_cons ha.pe (pa_cons (pe_bltn (v := .ty T') hg2 hm2 hv rfl hn hd) pa_nil hs2) hs) (by decide) (by decide) hs hpl, fun hid O B H σ E d re hm Q q => by
  obtain ⟨x, h1, hm⟩ := bind_some hm
  obtain ⟨b, h2, rfl⟩ := map_some hm
  refine ha.si hid O B H σ E _ re h1 _ fun v H1 e1 r1 => ?_
  exact ⟨v, .ty T', _, .type T', b, rfl, .ty T', tyX_of r1, kit_ty h2, q _ H1 e1 (.bl b)⟩⟩
end

/-! ### own defs -/
def spD (K : PySem.W.Frag) (n : Nat) (m : List D → Option D) : Sp := fun vs H Q _ => ∃ (hid : AS) (ds : List D) (d : D), (∀ a, hid a → ∃ xs, H a = some (.lst xs)) ∧ RpL K (rem hid H) vs ds ∧ ds.length = n ∧ m ds = some d ∧ ∀ v H', Ex H H' → Rp K (rem hid H') v d → Q v H'
structure Cal (P : Program) (w : World) (K : PySem.W.Frag) (mg : Str → Option Value) (base : Heap) (x : Str) (k n : Nat) (m : List D → Option D) : Prop where
  ex : ∃ (f : Addr) (fd : FuncData) (ps : List Str), mg x = some (.ref f) ∧ FnOk P w K mg base CX0 k f fd ps (spD K n m) ∧ PySem.W.keepIn K (.ref f) = true ∧ Binds K fd ps []
@[simp] def mCall (n : Nat) (m : List D → Option D) (a : En → Option (List D)) : En → Option D := fun E => (a E).bind fun ds => if ds.length = n then m ds else none
mutual
/-- no list within -/
def nolst : D → Bool
  | .lst _ => false
  | .scr _ => false
  | .tup ds => nolsts ds
  | _ => true
def nolsts : List D → Bool
  | [] => true
  | d :: ds => nolst d && nolsts ds
end
section
variable {K : PySem.W.Frag} {H : Hp} {W : AS}
theorem rem_tup (hW : ∀ a, W a → ∃ xs, H a = some (.lst xs)) {a : Addr} {xs : List V} (h : SqT K H a xs) : SqT K (rem W H) a xs := by
  rcases h with (h | ⟨o, h⟩) | h
  · refine .inl (.inl (rem_some.mpr ⟨fun z => ?_, h⟩))
    obtain ⟨ys, e⟩ := hW a z
    rw [h] at e
    cases e
  · refine .inl (.inr ⟨o, rem_some.mpr ⟨fun z => ?_, h⟩⟩)
    obtain ⟨ys, e⟩ := hW a z
    rw [h] at e
    cases e
  · exact .inr h
mutual
theorem nolst_rp (hW : ∀ a, W a → ∃ xs, H a = some (.lst xs)) : ∀ (d : D) {v : V}, nolst d = true → Rp K H v d → Rp K (rem W H) v d
  | .non, _, _, h => by cases h; exact .non
  | .bl b, _, _, h => by cases h; exact .bl b
  | .int i, _, _, h => by cases h; exact .int i
  | .str x, _, _, h => by cases h; exact .str x
  | .lst ds, _, z, h => by
    rw [nolst] at z
    cases z
  | .tup ds, _, z, h => by
    rw [nolst] at z
    cases h with
    | tup h1 h2 => exact .tup (rem_tup hW h1) (nolsts_rp hW ds z h2)
  | .scr ns, _, z, h => by
    rw [nolst] at z
    cases z
theorem nolsts_rp (hW : ∀ a, W a → ∃ xs, H a = some (.lst xs)) : ∀ (ds : List D) {vs : List V}, nolsts ds = true → RpL K H vs ds → RpL K (rem W H) vs ds
  | [], _, _, h => by cases h; exact .nil
  | d :: ds, _, z, h => by
    rw [nolsts] at z
    obtain ⟨z1, z2⟩ := Bool.and_eq_true_iff.mp z
    cases h with
    | cons h1 h2 => exact .cons (nolst_rp hW d z1 h1) (nolsts_rp hW ds z2 h2)
end
end
@[simp] def mCallT (n : Nat) (m : List D → Option D) (a : En → Option (List D)) : En → Option D := fun E => (a E).bind fun ds => if ds.length = n then (m ds).bind fun d => if nolst d = true then some d else none else none
section
variable {X : Cx} {x : Str} {k n : Nat} {m : List D → Option D} {e : Expr} {es : List Expr} {t : TA} {ma : En → Option (List D)} {p pos : Pos}
theorem de_call {P : Program} {w : World} {K : PySem.W.Frag} {mg : Str → Option Value} {base : Heap} {A : Around} (G : Cal P w K mg base x k n m) (hr : Room k A) (ha : DA X (e :: es) ma) (hA : X.A = A := by rfl) (hP : X.prog = P := by rfl) (hw : X.w = w := by rfl) (hK : X.K = K := by rfl) (hmg : X.mg = mg := by rfl) (hba : X.base = base := by rfl) (hg : Gl X x := by rfl) (hdb : (x == ("__debug__" : Str)) = false := by decide) (he : starEach (e :: es) X.env = (false, eval e X.env) :: starEach es X.env := by rfl) (hpl : (backTo pos (starEach es X.env)).any (·.1) = false := by rfl) :
    DE X (.Call (.Name x p) (e :: es) [] pos) (mCall n m ma) := by
  subst hA hP hw hK hmg hba
  obtain ⟨f, fd, ps, g1, g2, g3, g4⟩ := G.ex
  refine ⟨_, pe_call g2 hr hg g1 g3 g4 .nil pass0 ha.pa hdb he hpl, fun hid O B H σ E d re hm Q q => ?_⟩
  obtain ⟨ds, h1, hm⟩ := bind_some hm
  by_cases hl : ds.length = n
  · rw [if_pos hl] at hm
    refine ha.si hid O B H σ E ds re h1 _ fun vs H1 e1 r1 => ?_
    rw [List.append_nil]
    have re1 := re.grow e1
    refine ⟨orS hid O, ds, d, fun a z => ?_, r1, hl, hm, fun v H2 e2 r2 => q v H2 (e1.trans e2) r2⟩
    rcases z with z | z
    · obtain ⟨o, z⟩ := re1.hidd a z
      exact ⟨o, (re1.base a _ z).1⟩
    · exact (re1.own a z).2
  · rw [if_neg hl] at hm
    cases hm
theorem de_callT {P : Program} {w : World} {K : PySem.W.Frag} {mg : Str → Option Value} {base : Heap} {A : Around} (G : Cal P w K mg base x k n m) (hr : Room k A) (ha : DAT X (e :: es) ma) (hA : X.A = A := by rfl) (hP : X.prog = P := by rfl) (hw : X.w = w := by rfl) (hK : X.K = K := by rfl) (hmg : X.mg = mg := by rfl) (hba : X.base = base := by rfl) (hg : Gl X x := by rfl) (hdb : (x == ("__debug__" : Str)) = false := by decide) (he : starEach (e :: es) X.env = (false, eval e X.env) :: starEach es X.env := by rfl) (hpl : (backTo pos (starEach es X.env)).any (·.1) = false := by rfl) :
    DE X (.Call (.Name x p) (e :: es) [] pos) (mCallT n m ma) := by
  subst hA hP hw hK hmg hba
  obtain ⟨f, fd, ps, g1, g2, g3, g4⟩ := G.ex
  refine ⟨_, pe_call g2 hr hg g1 g3 g4 .nil pass0 ha.pa hdb he hpl, fun hid O B H σ E d re hm Q q => ?_⟩
  obtain ⟨ds, h1, hm⟩ := bind_some hm
  by_cases hl : ds.length = n
  · rw [if_pos hl] at hm
    obtain ⟨d', h2, hm⟩ := bind_some hm
    obtain ⟨h3, rfl⟩ := ite_some hm
    refine ha.si hid O B H σ E ds re h1 _ fun vs H1 e1 r1 => ?_
    rw [List.append_nil]
    refine ⟨noS, ds, d', fun a z => z.elim, r1.mono rem_no ds, hl, h2, fun v H2 e2 r2 => q v H2 (e1.trans e2) (nolst_rp (fun a z => ?_) _ h3 (r2.mono rem_ex _))⟩
    have re2 := (re.grow e1).grow e2
    rcases z with z | z
    · obtain ⟨o, z⟩ := re2.hidd a z
      exact ⟨o, (re2.base a _ z).1⟩
    · exact (re2.own a z).2
  · rw [if_neg hl] at hm
    cases hm
end
def callM (n N : Nat) (body : En → Option Out) : List D → Option D := fun ds => match body (ds.map Sl.fz ++ List.replicate (N - ds.length) Sl.un) with
  | some (.rt d) => some d
  | some (.rf ds) => some (.lst ds)
  | some (.nx _) => some .non
  | _ => none
def callF (n N : Nat) (body : En → Option Out) : List D → Option (List D) := fun ds => match body (ds.map Sl.fz ++ List.replicate (N - ds.length) Sl.un) with
  | some (.rf ds) => some ds
  | _ => none
def spF (K : PySem.W.Frag) (n : Nat) (m : List D → Option (List D)) : Sp := fun vs H Q _ => ∃ (hid : AS) (ds es : List D), (∀ a, hid a → ∃ xs, H a = some (.lst xs)) ∧ RpL K (rem hid H) vs ds ∧ ds.length = n ∧ m ds = some es ∧
  ∀ p xs H', H p = none → Ex H H' → H' p = some (.lst xs) → RpL K (rem (orS hid (· = p)) H') xs es → Q (.ref p) H'
structure CalF (P : Program) (w : World) (K : PySem.W.Frag) (mg : Str → Option Value) (base : Heap) (x : Str) (k n : Nat) (m : List D → Option (List D)) : Prop where
  ex : ∃ (f : Addr) (fd : FuncData) (ps : List Str), mg x = some (.ref f) ∧ FnOk P w K mg base CX0 k f fd ps (spF K n m) ∧ PySem.W.keepIn K (.ref f) = true ∧ Binds K fd ps []
@[simp] def mCallF (n : Nat) (m : List D → Option (List D)) (a : En → Option (List D)) : En → Option (List D) := fun E => (a E).bind fun ds => if ds.length = n then m ds else none
theorem df_call {X : Cx} {x : Str} {k n : Nat} {m : List D → Option (List D)} {e : Expr} {es : List Expr} {ma : En → Option (List D)} {p pos : Pos} {P : Program} {w : World} {K : PySem.W.Frag} {mg : Str → Option Value} {base : Heap} {A : Around} (G : CalF P w K mg base x k n m) (hr : Room k A) (ha : DA X (e :: es) ma) (hA : X.A = A := by rfl) (hP : X.prog = P := by rfl) (hw : X.w = w := by rfl) (hK : X.K = K := by rfl) (hmg : X.mg = mg := by rfl) (hba : X.base = base := by rfl) (hg : Gl X x := by rfl) (hdb : (x == ("__debug__" : Str)) = false := by decide) (he : starEach (e :: es) X.env = (false, eval e X.env) :: starEach es X.env := by rfl) (hpl : (backTo pos (starEach es X.env)).any (·.1) = false := by rfl) :
    DF X (.Call (.Name x p) (e :: es) [] pos) (mCallF n m ma) := by
  subst hA hP hw hK hmg hba
  obtain ⟨f, fd, ps, g1, g2, g3, g4⟩ := G.ex
  refine ⟨_, pe_call g2 hr hg g1 g3 g4 .nil pass0 ha.pa hdb he hpl, fun hid O B H σ E d re hm Q q => ?_⟩
  obtain ⟨ds, h1, hm⟩ := bind_some hm
  by_cases hl : ds.length = n
  · rw [if_pos hl] at hm
    refine ha.si hid O B H σ E ds re h1 _ fun vs H1 e1 r1 => ?_
    rw [List.append_nil]
    have re1 := re.grow e1
    refine ⟨orS hid O, ds, d, fun a z => ?_, r1, hl, hm, fun p xs H2 hp e2 hx r2 => q p xs H2 (Evl.fresh_back e1 hp) (e1.trans e2) hx r2⟩
    rcases z with z | z
    · obtain ⟨o, z⟩ := re1.hidd a z
      exact ⟨o, (re1.base a _ z).1⟩
    · exact (re1.own a z).2
  · rw [if_neg hl] at hm
    cases hm
/-- a def of the text stands at x and its body does what m says -/
structure Stands (K : PySem.W.Frag) (mg : Str → Option Value) (x : Str) (st : Stmt) : Prop where
  ex : ∃ (f : Addr) (fd : FuncData), mg x = some (.ref f) ∧ FunD K x x (defArgs st) (defBody st) (defScope st) [] [] f fd
section
variable {P : Program} {w : World} {K : PySem.W.Frag} {mg : Str → Option Value} {base : Heap}
theorem fn_mk {x : Str} {st : Stmt} {N ps : List Str} {k n : Nat} {m : En → Option Out} {f : Addr} {fd : FuncData} (F : FunD K x x (defArgs st) (defBody st) (defScope st) [] [] f fd) (S : FnScope N ps (defScope st)) (hn : ps.length = n)
    (hbody : ∀ (cdv : Value) (A : Around) (outer : List Env) (s : Shared) (H : Hp) (E : XK), Room k (A.deeper (envOfC x (defScope st) s.heap.objs.size f cdv)) →
      DSs (cxOf CX0 P w K mg base N x (defScope st) f cdv A outer s H E).nox (defBody st) m) : FnOk P w K mg base CX0 (k + 1) f fd ps (spD K n (callM n N.length m)) := by
  refine F.ok S (fun vs H Q E h => ?_) (fun cdv A outer s H vs Q E hr h => ?_)
  · obtain ⟨hid, ds, d, _, h1, h2, _⟩ := h
    rw [h1.length, h2, hn]
  · obtain ⟨hid, ds, d, h0, h1, h2, h3, q⟩ := h
    have T := hbody cdv A outer s H E hr
    refine ⟨_, T.ps.nox, ?_⟩
    have r0 : RE K hid noS H H (start N vs) (ds.map Sl.fz ++ List.replicate (N.length - ds.length) Sl.un) := RE.start h0 h1
    unfold callM at h3
    split at h3
    · rename_i d' e
      cases h3
      exact T.si hid noS H H _ _ (.rt d) _ r0 e fun v H' ex rv => q v H' ex rv
    · rename_i es e
      cases h3
      exact T.si hid noS H H _ _ (.rf es) _ r0 e fun p xs H' hp ex hx rv => q _ H' ex (.lst (rem_some.mpr ⟨fun z => (by
        obtain ⟨ys, z⟩ := h0 p z
        rw [hp] at z
        cases z), hx⟩) (rv.mono (rem_sub fun a z => .inl z) es))
    · rename_i E' e
      cases h3
      exact T.si hid noS H H _ _ (.nx E') _ r0 e fun O' σ' H' r' => q .non H' r'.ex .non
    · cases h3
theorem fnF_mk {x : Str} {st : Stmt} {N ps : List Str} {k n : Nat} {m : En → Option Out} {f : Addr} {fd : FuncData} (F : FunD K x x (defArgs st) (defBody st) (defScope st) [] [] f fd) (S : FnScope N ps (defScope st)) (hn : ps.length = n)
    (hbody : ∀ (cdv : Value) (A : Around) (outer : List Env) (s : Shared) (H : Hp) (E : XK), Room k (A.deeper (envOfC x (defScope st) s.heap.objs.size f cdv)) →
      DSs (cxOf CX0 P w K mg base N x (defScope st) f cdv A outer s H E).nox (defBody st) m) : FnOk P w K mg base CX0 (k + 1) f fd ps (spF K n (callF n N.length m)) := by
  refine F.ok S (fun vs H Q E h => ?_) (fun cdv A outer s H vs Q E hr h => ?_)
  · obtain ⟨hid, ds, d, _, h1, h2, _⟩ := h
    rw [h1.length, h2, hn]
  · obtain ⟨hid, ds, es, h0, h1, h2, h3, q⟩ := h
    have T := hbody cdv A outer s H E hr
    refine ⟨_, T.ps.nox, ?_⟩
    have r0 : RE K hid noS H H (start N vs) (ds.map Sl.fz ++ List.replicate (N.length - ds.length) Sl.un) := RE.start h0 h1
    unfold callF at h3
    split at h3
    · rename_i es' e
      cases h3
      exact T.si hid noS H H _ _ (.rf es) _ r0 e fun p xs H' hp ex hx rv => q p xs H' hp ex hx rv
    · cases h3
theorem calF_of {x : Str} {st : Stmt} {ps : List Str} {k n : Nat} {m : List D → Option (List D)} (F : Stands K mg x st)
    (hb : ∀ (kV doc pm : Value) (an : Option Addr) (cdv ct : Value) (us : List Value), us.length = ps.length → bindArgs (PySem.W.fnOf x x (defArgs st) (defBody st) (defScope st) .none kV doc pm an cdv ct) ⟨us, []⟩ = pure (ps.zip us))
    (h : ∀ {f : Addr} {fd : FuncData}, FunD K x x (defArgs st) (defBody st) (defScope st) [] [] f fd → FnOk P w K mg base CX0 k f fd ps (spF K n m)) : CalF P w K mg base x k n m := by
  obtain ⟨f, fd, g, F⟩ := F.ex
  obtain ⟨oc, od, dV, kV, doc, pm, an, cdv, ct, osl, e, lk, hcd, hd, hk⟩ := F.ex
  have F' := F
  refine ⟨f, fd, ps, g, h F, F.kp, ?_⟩
  subst e
  rcases hd with ⟨_, rfl⟩ | ⟨z, _⟩
  · exact .all (hb kV doc pm an cdv ct)
  · exact absurd rfl z
theorem fun_binds {x : Str} {st : Stmt} {ps : List Str} {f : Addr} {fd : FuncData} (F : FunD K x x (defArgs st) (defBody st) (defScope st) [] [] f fd)
    (hb : ∀ (kV doc pm : Value) (an : Option Addr) (cdv ct : Value) (us : List Value), us.length = ps.length → bindArgs (PySem.W.fnOf x x (defArgs st) (defBody st) (defScope st) .none kV doc pm an cdv ct) ⟨us, []⟩ = pure (ps.zip us)) : Binds K fd ps [] := by
  obtain ⟨oc, od, dV, kV, doc, pm, an, cdv, ct, osl, rfl, lk, hcd, hd, _⟩ := F.ex
  rcases hd with ⟨_, rfl⟩ | ⟨z, _⟩
  · exact .all (hb kV doc pm an cdv ct)
  · exact absurd rfl z
theorem cal_of {x : Str} {st : Stmt} {ps : List Str} {k n : Nat} {m : List D → Option D} (F : Stands K mg x st)
    (hb : ∀ (kV doc pm : Value) (an : Option Addr) (cdv ct : Value) (us : List Value), us.length = ps.length → bindArgs (PySem.W.fnOf x x (defArgs st) (defBody st) (defScope st) .none kV doc pm an cdv ct) ⟨us, []⟩ = pure (ps.zip us))
    (h : ∀ {f : Addr} {fd : FuncData}, FunD K x x (defArgs st) (defBody st) (defScope st) [] [] f fd → FnOk P w K mg base CX0 k f fd ps (spD K n m)) : Cal P w K mg base x k n m := by
  obtain ⟨f, fd, g, F⟩ := F.ex
  exact ⟨f, fd, ps, g, h F, F.kp, fun_binds F hb⟩
end

/-! ### lists changed in place -/
section
variable {X : Cx} {e e2 : Expr} {te te2 : TE} {m m2 : En → Option D} {x : Str} {p apos cpos pos : Pos}
theorem up_set {E : En} {i : Nat} {s t : Sl} : (E.set i s).set i t = E.set i t := List.set_set ..
@[simp] def mApp (i : Nat) (m : En → Option D) : En → Option Out := fun E => (m E).bind fun d => match E[i]? with
  | some (.ow ds) => if ds.length < 100000 then some (.nx (E.set i (.ow (ds ++ [d])))) else none
  | _ => none
theorem ow_of {E : En} {i : Nat} {d : D} {o : Out} {f : List D → Option Out} (h : (match E[i]? with
  | some (.ow ds) => f ds
  | _ => none) = some o) : ∃ ds, E[i]? = some (.ow ds) ∧ f ds = some o := by
  split at h
  · exact ⟨_, ‹_›, h⟩
  · cases h
theorem ds_app (i : Nat) (he : DE X e m) (hN : X.N[i]? = some x := by rfl) (hv : Vis X.env.scope x := by first | exact Or.inl rfl | exact Or.inr (Or.inl rfl) | exact Or.inr (Or.inr rfl)) (hd : (x == ("__debug__" : Str)) = false := by decide) (hcd : (x == ("__classdict__" : Str)) = false := by decide)
    (hbase : attributeBase (.Name x p) "append" X.env (eval (.Name x p) X.env) = eval (.Name x p) X.env := by rfl)
    (hfew : ((backTo cpos (starEach [e] X.env)).all (fun x => !x.1) && (backToKw cpos (keywordEach [] X.env)).all (fun x => x.1.isSome)
      && decide ([e].length + ([] : List Keyword).length + (if ([] : List Keyword).isEmpty then 0 else 1) < 30)) = true := by rfl)
    (hline : (apos.endLine == cpos.line) = true := by rfl) (hs : starEach [e] X.env = (false, eval e X.env) :: starEach [] X.env := by rfl) (hplain : (backTo cpos (starEach [] X.env)).any (·.1) = false := by rfl)
    (hsw : swapsWith (.Call (.Attribute (.Name x p) "append" apos) [e] [] cpos) none pos.line X.env = pure false := by rfl) :
    DS X (.Expr (.Call (.Attribute (.Name x p) "append" apos) [e] [] cpos) pos) (mApp i m) :=
  ⟨_, ps_expr (pe_bm PySem.F.plainAttrs_list PySem.F.slot_list_append PySem.F.type_list_append mt_append (pe_var hN hv hd hcd) (pa_cons he.pe pa_nil hs) hbase hfew hline hs hplain) hsw, fun hid O B H σ E o Dn r hm k => by
  obtain ⟨d, h1, hm⟩ := bind_some hm
  obtain ⟨ds, h2, hm⟩ := ow_of (d := d) hm
  obtain ⟨h3, rfl⟩ := ite_some hm
  obtain ⟨q, xs, g1, g2, g3, g4⟩ := r.ow i ds h2
  refine ⟨.ref q, g1, .inl ⟨rfl, xs, .inl (.inl g3)⟩, ?_⟩
  refine he.si hid O B H σ E d r h1 _ fun v H1 e1 r1 => ?_
  refine ⟨q, xs, v, rfl, rfl, e1 q _ g3, by rw [g4.length]; exact size_lt h3, ?_⟩
  exact k O σ _ ((r.grow e1).chg h2 g1 ((g4.mono (rem_mono e1) _).app (.one r1)))⟩
@[simp] def insD (ds : List D) (i : Int) (d : D) : Option (List D) := if ds.length < 100000 ∧ 0 ≤ i ∧ i < 100000 then some (ds.take i.toNat ++ [d] ++ ds.drop i.toNat) else none
@[simp] def mIns (i : Nat) (mk m : En → Option D) : En → Option Out := fun E => (mk E).bind fun k => (m E).bind fun d => match E[i]? with
  | some (.ow ds) => (match k with
    | .int j => (insD ds j d).map fun es => .nx (E.set i (.ow es))
    | _ => none)
  | _ => none
theorem ds_ins (i : Nat) (hk : DE X e2 m2) (he : DE X e m) (hN : X.N[i]? = some x := by rfl) (hv : Vis X.env.scope x := by first | exact Or.inl rfl | exact Or.inr (Or.inl rfl) | exact Or.inr (Or.inr rfl)) (hd : (x == ("__debug__" : Str)) = false := by decide) (hcd : (x == ("__classdict__" : Str)) = false := by decide)
    (hbase : attributeBase (.Name x p) "insert" X.env (eval (.Name x p) X.env) = eval (.Name x p) X.env := by rfl)
    (hfew : ((backTo cpos (starEach [e2, e] X.env)).all (fun x => !x.1) && (backToKw cpos (keywordEach [] X.env)).all (fun x => x.1.isSome)
      && decide ([e2, e].length + ([] : List Keyword).length + (if ([] : List Keyword).isEmpty then 0 else 1) < 30)) = true := by rfl)
    (hline : (apos.endLine == cpos.line) = true := by rfl) (hs : starEach [e2, e] X.env = (false, eval e2 X.env) :: starEach [e] X.env := by rfl) (hs2 : starEach [e] X.env = (false, eval e X.env) :: starEach [] X.env := by rfl) (hplain : (backTo cpos (starEach [e] X.env)).any (·.1) = false := by rfl)
    (hsw : swapsWith (.Call (.Attribute (.Name x p) "insert" apos) [e2, e] [] cpos) none pos.line X.env = pure false := by rfl) :
    DS X (.Expr (.Call (.Attribute (.Name x p) "insert" apos) [e2, e] [] cpos) pos) (mIns i m2 m) :=
  ⟨_, ps_expr (pe_bm PySem.F.plainAttrs_list PySem.F.slot_list_insert PySem.F.type_list_insert mt_insert (pe_var hN hv hd hcd) (pa_cons hk.pe (pa_cons he.pe pa_nil hs2) hs) hbase hfew hline hs hplain) hsw, fun hid O B H σ E o Dn r hm k => by
  obtain ⟨kk, h0, hm⟩ := bind_some hm
  obtain ⟨d, h1, hm⟩ := bind_some hm
  obtain ⟨ds, h2, hm⟩ := ow_of (d := d) hm
  obtain ⟨q, xs, g1, g2, g3, g4⟩ := r.ow i ds h2
  refine ⟨.ref q, g1, .inl ⟨rfl, xs, .inl (.inl g3)⟩, ?_⟩
  refine hk.si hid O B H σ E kk r h0 _ fun u H1 e1 r1 => ?_
  refine he.si hid O B H1 σ E d (r.grow e1) h1 _ fun v H2 e2 r2 => ?_
  split at hm
  · obtain ⟨es, h3, rfl⟩ := map_some hm
    unfold insD at h3
    obtain ⟨⟨h4, h5, h6⟩, rfl⟩ := ite_some h3
    cases r1
    have e12 := e1.trans e2
    have g4' := g4.mono (rem_mono e12) _
    refine ⟨q, xs, _, v, rfl, rfl, e12 q _ g3, by rw [g4.length]; exact size_lt h4, h5, by omega, ?_⟩
    exact k O σ _ ((r.grow e12).chg h2 g1 (((g4'.take _).app (.one r2)).app (g4'.drop _)))
  · cases hm⟩
/-- x[k] = e -/
@[simp] def mSub (i : Nat) (m mk : En → Option D) : En → Option Out := fun E => (m E).bind fun d => (mk E).bind fun k => match E[i]? with
  | some (.ow ds) => (match k with
    | .int j => (ixN ds.length j).map fun n => .nx (E.set i (.ow (ds.set n d)))
    | _ => none)
  | _ => none
theorem ds_sub (i : Nat) {spos : Pos} (he : DE X e m) (hk : DE X e2 m2) (hN : X.N[i]? = some x := by rfl) (hv : Vis X.env.scope x := by first | exact Or.inl rfl | exact Or.inr (Or.inl rfl) | exact Or.inr (Or.inr rfl)) (hd : (x == ("__debug__" : Str)) = false := by decide) (hcd : (x == ("__classdict__" : Str)) = false := by decide)
    (ha : ∀ v, assign (.Subscript (.Name x p) e2 spos) X.env v = (do
      let ov ← holding [v] (eval (.Name x p) X.env)
      let iv ← holding [v, ov] (eval e2 X.env)
      standAt spos
      holding [v, ov, iv] (setItem ov iv v)
      release [v, ov, iv] []) := by intro _; rfl)
    (hs : swapsWithSole [.Subscript (.Name x p) e2 spos] e pos.line X.env = pure false := by rfl) (hw : swappedStores [.Subscript (.Name x p) e2 spos] e X.env = pure none := by rfl)
    (h1 : (assignEach [.Subscript (.Name x p) e2 spos] X.env).map (·.2) = [assign (.Subscript (.Name x p) e2 spos) X.env] := by rfl) :
    DS X (.Assign [.Subscript (.Name x p) e2 spos] e pos) (mSub i m m2) :=
  ⟨_, ps_asg he.pe (pg_sub (pe_var hN hv hd hcd) hk.pe set_list ha) hs hw h1, fun hid O B H σ E o Dn r hm k => by
  obtain ⟨d, h0, hm⟩ := bind_some hm
  obtain ⟨kk, h1, hm⟩ := bind_some hm
  obtain ⟨ds, h2, hm⟩ := ow_of (d := d) hm
  obtain ⟨q, xs, g1, g2, g3, g4⟩ := r.ow i ds h2
  refine he.si hid O B H σ E d r h0 _ fun v H1 e1 r1 => ?_
  refine ⟨.ref q, g1, ?_⟩
  refine hk.si hid O B H1 σ E kk (r.grow e1) h1 _ fun u H2 e2 r2 => ?_
  split at hm
  · obtain ⟨n, h3, rfl⟩ := map_some hm
    cases r2
    have e12 := e1.trans e2
    refine ⟨q, xs, _, n, rfl, rfl, e12 q _ g3, by rw [g4.length]; exact h3, ?_⟩
    exact k O σ _ ((r.grow e12).chg h2 g1 ((g4.mono (rem_mono e12) _).set (r1.mono (rem_mono e2) _) n))
  · cases hm⟩
/-- x = [.. for ..] -/
theorem ds_setLc (i : Nat) {y : Str} {py : Pos} {elt tg iter : Expr} {ifs : List Expr} {scope : Scope} {own : List (Str × Nat)} {spos : Pos} {js : List Nat} {mi : En → Option (List D)} {mg : En → D → Option En} {mt : En → Option Bool} {me : En → Option D}
    (hc : X.calm = true) (hN : X.N.Nodup) (hi : DIT X tg iter mi) (ok : BlkOk X.N X.env.scope scope own) (hjs : ∀ j ∈ js, j ∈ own.map (·.2))
    (hg : ∀ (s : Shared) (H : Hp) (C : Addr) (cl : List (Str × Addr)) (fp : List Addr), DG (X.blk s H scope (compEnvC scope cl C X.env) fp) tg js mg) (ht : ∀ (s : Shared) (H : Hp) (C : Addr) (cl : List (Str × Addr)) (fp : List Addr), DTs (X.blk s H scope (compEnvC scope cl C X.env) fp) ifs mt)
    (he : ∀ (s : Shared) (H : Hp) (C : Addr) (cl : List (Str × Addr)) (fp : List Addr), DE (X.blk s H scope (compEnvC scope cl C X.env) fp) elt me)
    (hsw : swapsWith (.ListComp elt [⟨tg, iter, ifs, 0⟩] scope pos) (some (.Name y py)) spos.line X.env = pure true) (hy : X.N[i]? = some y := by rfl) (hyl : X.env.scope.names.lookup y = some .local := by rfl) (hs : ∀ x, foldedSetIterable iter X.env x = pure x := by intro _; rfl) :
    DS X (.Assign [.Name y py] (.ListComp elt [⟨tg, iter, ifs, 0⟩] scope pos) spos) (mSetO i (mComp (own.map (·.2)) mi mg mt me)) :=
  ⟨_, ps_setLc (wi := tITq X.K mi) (g := tGq X.K js mg) (tt := tBq X.K mt) (te := tE X.K me) hc hN hy hyl hsw hi.pi ok (fun s H C cl fp => (hg s H C cl fp).pg) (fun s H C cl fp => (ht s H C cl fp).pt) (fun s H C cl fp => (he s H C cl fp).pe) hs,
    ss_setO i (sf_lc hi.si (hg X.s_0 X.H_0 0 [] []).si hjs (ht X.s_0 X.H_0 0 [] []).si (he X.s_0 X.H_0 0 [] []).si)⟩
/-- .. x not changed later -/
theorem ss_setF {K : PySem.W.Frag} (i : Nat) {te : TE} {m : En → Option (List D)} (h : SF K te m) : SS K (tAsg te (gName i)) (mSet i (mList m)) := fun hid O B H σ E o Dn r hm k => by
  obtain ⟨d, h1, rfl⟩ := map_some hm
  obtain ⟨ds, h2, rfl⟩ := map_some h1
  exact h hid O B H σ E ds r h2 _ fun p xs H1 hp e1 hx r1 => k _ _ H1 ((r.grow e1).put i (.lst (vis_new (r.fresh hp) hx) (r1.mono (rem_sub fun a z => .inl z) ds)))
theorem ds_setLcF (i : Nat) {y : Str} {py : Pos} {elt tg iter : Expr} {ifs : List Expr} {scope : Scope} {own : List (Str × Nat)} {pos spos : Pos} {js : List Nat} {mi : En → Option (List D)} {mg : En → D → Option En} {mt : En → Option Bool} {me : En → Option D}
    (hc : X.calm = true) (hN : X.N.Nodup) (hi : DIT X tg iter mi) (ok : BlkOk X.N X.env.scope scope own) (hjs : ∀ j ∈ js, j ∈ own.map (·.2))
    (hg : ∀ (s : Shared) (H : Hp) (C : Addr) (cl : List (Str × Addr)) (fp : List Addr), DG (X.blk s H scope (compEnvC scope cl C X.env) fp) tg js mg) (ht : ∀ (s : Shared) (H : Hp) (C : Addr) (cl : List (Str × Addr)) (fp : List Addr), DTs (X.blk s H scope (compEnvC scope cl C X.env) fp) ifs mt)
    (he : ∀ (s : Shared) (H : Hp) (C : Addr) (cl : List (Str × Addr)) (fp : List Addr), DE (X.blk s H scope (compEnvC scope cl C X.env) fp) elt me)
    (hsw : swapsWith (.ListComp elt [⟨tg, iter, ifs, 0⟩] scope pos) (some (.Name y py)) spos.line X.env = pure true) (hy : X.N[i]? = some y := by rfl) (hyl : X.env.scope.names.lookup y = some .local := by rfl) (hs : ∀ x, foldedSetIterable iter X.env x = pure x := by intro _; rfl) :
    DS X (.Assign [.Name y py] (.ListComp elt [⟨tg, iter, ifs, 0⟩] scope pos) spos) (mSet i (mList (mComp (own.map (·.2)) mi mg mt me))) :=
  ⟨_, ps_setLc (wi := tITq X.K mi) (g := tGq X.K js mg) (tt := tBq X.K mt) (te := tE X.K me) hc hN hy hyl hsw hi.pi ok (fun s H C cl fp => (hg s H C cl fp).pg) (fun s H C cl fp => (ht s H C cl fp).pt) (fun s H C cl fp => (he s H C cl fp).pe) hs,
    ss_setF i (sf_lc hi.si (hg X.s_0 X.H_0 0 [] []).si hjs (ht X.s_0 X.H_0 0 [] []).si (he X.s_0 X.H_0 0 [] []).si)⟩
end
end Sx

set_option Elab.async false
set_option linter.all false
set_option maxRecDepth 100000

set_option Elab.async false
set_option linter.all false
set_option maxRecDepth 100000
set_option maxHeartbeats 1000000
namespace Sx
open PySem PySem.Spec PyProof.Rows L2
open Evl (Ex)

/-! ### enumerate -/
def enumD : Nat → List D → List D
  | _, [] => []
  | n, d :: ds => .tup [.int (n : Int), d] :: enumD (n + 1) ds
theorem enumD_len : ∀ (ds : List D) (n : Nat), (enumD n ds).length = ds.length
  | [], _ => rfl
  | _ :: ds, n => congrArg Nat.succ (enumD_len ds (n + 1))
theorem enumD_get : ∀ (ds : List D) (n i : Nat), (enumD n ds)[i]? = (ds[i]?).map fun d => .tup [.int ((n + i : Nat) : Int), d]
  | [], _, i => by simp [enumD]
  | d :: ds, n, 0 => by simp [enumD]
  | d :: ds, n, i + 1 => by
    have := enumD_get ds (n + 1) i
    simp only [enumD, List.getElem?_cons_succ]
    rw [this]
    have e : n + 1 + i = n + (i + 1) := by omega
    rw [e]
theorem Yd.enum {K : PySem.W.Frag} {W : AS} {H2 : Hp} {xs : List V} {ds : List D} (h : RpL K (rem W H2) xs ds) : Yd K W H2 (enumD 0 ds) (YPair (fun i => some (.int (i : Nat))) (fun i => xs[i]?)) := fun i H1 x H1' W' d y hd e hn => by
  obtain ⟨T, a, b, rfl, hT, rfl, ha, hb⟩ := y
  rw [enumD_get] at hd
  obtain ⟨di, hdi, rfl⟩ := map_some hd
  obtain ⟨v, h1, h2⟩ := h.get hdi
  have hb' : xs[i]? = some b := hb
  rw [h1] at hb'
  cases hb'
  have ha' : some (V.int (i : Nat)) = some a := ha
  cases ha'
  have ex : Ex H1 (upd H1 T (.tup [.int (i : Nat), b])) := Ex.new hT
  refine ⟨ex, .tup (Evl.st_of (rem_some.mpr ⟨hn T hT, upd_same⟩)) (.cons ?_ (.cons ((h2.mono e di).mono (rem_mono ex) di) .nil))⟩
  rw [Nat.zero_add]
  exact .int _
section
variable {X : Cx} {e : Expr} {m : En → Option D} {p pos tpos : Pos} {elts : List Expr} {kk : Nat}
@[simp] def mEnum (m : En → Option D) : En → Option (List D) := fun E => ((m E).bind lstOf).map (enumD 0)
theorem di_enum (hm : X.mg "enumerate" = none) (h : DE X e m) (hg : Gl X "enumerate" := by rfl) (hs1 : starEach [e] X.env = (false, eval e X.env) :: starEach [] X.env := by rfl) (hs : starEach [e] X.env = [(false, eval e X.env)] := by rfl) :
    DI X (.Tuple elts kk tpos) (.Call (.Name "enumerate" p) [e] [] pos) (mEnum m) := ⟨_, pi_enum hg hm (pa_cons h.pe pa_nil hs1) hs, fun hid O B H σ E ds r hm R k => by
  obtain ⟨es, h1, rfl⟩ := map_some hm
  obtain ⟨x, h2, h3⟩ := bind_some h1
  refine h.si hid O B H σ E x r h2 _ fun v H1 e1 r1 => ?_
  rcases lstOf_some h3 with rfl | ⟨ns, rfl, rfl⟩
  · cases r1 with
    | @lst a xs _ g1 g2 =>
      refine ⟨a, xs, rfl, .inl (.inl (rem_some.mp g1).2), ?_⟩
      have w := walk_enum (K := X.K) (a := a) (xs := xs)
      rw [g2.length, ← enumD_len es 0] at w
      exact k _ H1 _ _ e1 w (fun H' z => .inl (.inl (z a _ g1))) (Yd.enum g2)
  · cases r1 with
    | @scr a _ g1 =>
      refine ⟨a, _, rfl, Evl.ex_l rem_ex g1, ?_⟩
      have w := walk_enum (K := X.K) (a := a) (xs := ns.map V.int)
      rw [List.length_map, ← List.length_map (f := D.int), ← enumD_len (ns.map D.int) 0] at w
      exact k _ H1 _ _ e1 w (fun H' z => Evl.ex_l z g1) (Yd.enum (RpL.ints ns))⟩
theorem dit_enum (hm : X.mg "enumerate" = none) (h : DT X e m) (hg : Gl X "enumerate" := by rfl) (hs1 : starEach [e] X.env = (false, eval e X.env) :: starEach [] X.env := by rfl) (hs : starEach [e] X.env = [(false, eval e X.env)] := by rfl) :
    DIT X (.Tuple elts kk tpos) (.Call (.Name "enumerate" p) [e] [] pos) (mEnum m) := ⟨_, pi_enum hg hm (pa_cons h.pe pa_nil hs1) hs, fun hid O B H σ E ds r hm R k => by
  obtain ⟨es, h1, rfl⟩ := map_some hm
  obtain ⟨x, h2, h3⟩ := bind_some h1
  refine h.si hid O B H σ E x r h2 _ fun v H1 e1 r1 => ?_
  rcases lstOf_some h3 with rfl | ⟨ns, rfl, rfl⟩
  · obtain ⟨a, xs, rfl, g1, g2⟩ := r1.lst
    refine ⟨a, xs, rfl, .inl (.inl g1), ?_⟩
    have w := walk_enum (K := X.K) (a := a) (xs := xs)
    rw [g2.length, ← enumD_len es 0] at w
    exact k _ H1 _ _ e1 w (fun H' z => .inl (.inl (z a _ g1))) (Yd.enum g2)
  · obtain ⟨a, rfl, g1⟩ := r1.scr
    refine ⟨a, _, rfl, g1, ?_⟩
    have w := walk_enum (K := X.K) (a := a) (xs := ns.map V.int)
    rw [List.length_map, ← List.length_map (f := D.int), ← enumD_len (ns.map D.int) 0] at w
    exact k _ H1 _ _ e1 w (fun H' z => Evl.ex_l z g1) (Yd.enum (RpL.ints ns))⟩
end

/-! ### flat items -/
def allStrs : List D → Option (List Str)
  | [] => some []
  | .str z :: ds => (allStrs ds).map (z :: ·)
  | _ :: _ => none
theorem allStrs_some : ∀ {ds : List D} {ns : List Str}, allStrs ds = some ns → ds = ns.map .str
  | [], _, h => by cases h; rfl
  | d :: ds, ns, h => by
    cases d with
    | str z =>
      obtain ⟨zs, h1, rfl⟩ := map_some (show (allStrs ds).map (z :: ·) = some ns from h)
      rw [allStrs_some h1]
      rfl
    | _ => cases h
theorem allStrs_map : ∀ (ns : List Str), allStrs (ns.map .str) = some ns
  | [] => rfl
  | n :: ns => by
    show (allStrs (ns.map .str)).map (n :: ·) = _
    rw [allStrs_map ns]
    rfl
def allBls : List D → Option (List Bool)
  | [] => some []
  | .bl z :: ds => (allBls ds).map (z :: ·)
  | _ :: _ => none
theorem allBls_some : ∀ {ds : List D} {ns : List Bool}, allBls ds = some ns → ds = ns.map .bl
  | [], _, h => by cases h; rfl
  | d :: ds, ns, h => by
    cases d with
    | bl z =>
      obtain ⟨zs, h1, rfl⟩ := map_some (show (allBls ds).map (z :: ·) = some ns from h)
      rw [allBls_some h1]
      rfl
    | _ => cases h
theorem allBls_map : ∀ (ns : List Bool), allBls (ns.map .bl) = some ns
  | [] => rfl
  | n :: ns => by
    show (allBls (ns.map .bl)).map (n :: ·) = _
    rw [allBls_map ns]
    rfl
section
variable {K : PySem.W.Frag} {H : Hp}
theorem RpL.strs_of : ∀ {ns : List Str} {vs : List V}, RpL K H vs (ns.map D.str) → vs = ns.map V.str
  | [], _, h => by cases h; rfl
  | n :: ns, _, h => by
    cases h with
    | cons h1 h2 =>
      cases h1
      rw [RpL.strs_of h2]
      rfl
theorem RpL.bls_of : ∀ {ns : List Bool} {vs : List V}, RpL K H vs (ns.map D.bl) → vs = ns.map V.bl
  | [], _, h => by cases h; rfl
  | n :: ns, _, h => by
    cases h with
    | cons h1 h2 =>
      cases h1
      rw [RpL.bls_of h2]
      rfl
end
theorem Tv.seq2 {K : PySem.W.Frag} {hid O : AS} {H : Hp} {v : V} {x : D} {ds : List D} (rv : Tv K hid O H v x) (h : seqOf x = some ds) : ∃ p xs, v = .ref p ∧ (SqL K H p xs ∨ SqT K H p xs) ∧ ∃ W, RpL K (rem W H) xs ds := by
  unfold seqOf at h
  split at h
  · cases h
    obtain ⟨p, xs, rfl, h1, h2⟩ := rv.seq
    exact ⟨p, xs, rfl, .inl h1, _, h2⟩
  · cases h
    obtain ⟨p, xs, rfl, h1, h2⟩ := rv.tup
    exact ⟨p, xs, rfl, .inr (Evl.ex_t rem_ex h1), _, h2⟩
  · cases h
    obtain ⟨p, rfl, h1⟩ := rv.scr
    exact ⟨p, _, rfl, .inl h1, noS, RpL.ints _⟩
  · cases h
@[simp] def inD : D → D → Option D
  | .str z, c => ((seqOf c).bind allStrs).map fun ss => .bl (ss.contains z)
  | .int z, c => ((seqOf c).bind allInts).map fun ss => .bl (ss.contains z)
  | _, _ => none
@[simp] def notInD (x c : D) : Option D := (inD x c).map fun d => match d with
  | .bl b => .bl (!b)
  | d => d
theorem inV_str (z : Str) : ∀ ss : List Str, inV (.str z) (ss.map V.str) = ss.contains z
  | [] => rfl
  | s :: ss => by
    have ih := inV_str z ss
    unfold inV at ih ⊢
    rw [List.map_cons, List.any_cons, ih, List.contains_cons]
    congr 1
    show (s == z) = (z == s)
    exact Bool.beq_comm
theorem inV_int (z : Int) : ∀ ss : List Int, inV (.int z) (ss.map V.int) = ss.contains z
  | [] => rfl
  | s :: ss => by
    have ih := inV_int z ss
    unfold inV at ih ⊢
    rw [List.map_cons, List.any_cons, ih, List.contains_cons]
    congr 1
    show (s == z) = (z == s)
    exact Bool.beq_comm
theorem flat_strs (ss : List Str) : (ss.map V.str).all flatV = true := by
  rw [List.all_map, List.all_eq_true]
  intro x _
  rfl
theorem flat_ints (ss : List Int) : (ss.map V.int).all flatV = true := by
  rw [List.all_map, List.all_eq_true]
  intro x _
  rfl
theorem in_facts {K : PySem.W.Frag} {hid O : AS} {H : Hp} {x y : V} {a c d : D} (ra : Tv K hid O H x a) (rc : Tv K hid O H y c) (h : inD a c = some d) :
    ∃ p xs b, y = .ref p ∧ (SqL K H p xs ∨ SqT K H p xs) ∧ flatV x = true ∧ xs.all flatV = true ∧ inV x xs = b ∧ d = .bl b := by
  unfold inD at h
  split at h
  · obtain ⟨ss, h1, rfl⟩ := map_some h
    obtain ⟨ds, h2, h3⟩ := bind_some h1
    obtain ⟨p, xs, rfl, h4, W, h5⟩ := rc.seq2 h2
    rw [allStrs_some h3] at h5
    rw [RpL.strs_of h5] at h4
    obtain rfl := ra.str
    exact ⟨p, _, _, rfl, h4, rfl, flat_strs ss, inV_str _ ss, rfl⟩
  · obtain ⟨ss, h1, rfl⟩ := map_some h
    obtain ⟨ds, h2, h3⟩ := bind_some h1
    obtain ⟨p, xs, rfl, h4, W, h5⟩ := rc.seq2 h2
    rw [allInts_some h3] at h5
    rw [RpL.ints_of h5] at h4
    obtain rfl := ra.int
    exact ⟨p, _, _, rfl, h4, rfl, flat_ints ss, inV_int _ ss, rfl⟩
  · cases h
theorem od_in {K : PySem.W.Frag} : OD K (rIn K false) inD := fun hid O H x y a b d al ra rb hm Q q => by
  obtain ⟨p, xs, k, rfl, h1, h2, h3, h4, rfl⟩ := in_facts ra rb hm
  refine ⟨p, xs, rfl, h1, h2, h3, ?_⟩
  rw [if_neg Bool.false_ne_true, h4]
  exact q _ H (Ex.refl H) (.bl _)
theorem od_notIn {K : PySem.W.Frag} : OD K (rIn K true) notInD := fun hid O H x y a b d al ra rb hm Q q => by
  obtain ⟨d', h0, rfl⟩ := map_some hm
  obtain ⟨p, xs, k, rfl, h1, h2, h3, h4, rfl⟩ := in_facts ra rb h0
  refine ⟨p, xs, rfl, h1, h2, h3, ?_⟩
  rw [if_pos rfl, h4]
  exact q _ H (Ex.refl H) (.bl _)
section
variable {X : Cx} {a b : Expr} {ta tb : TE} {ma mb : En → Option D} {p pos : Pos}
/-- any(x) of a list of truth values -/
@[simp] def anyD (d : D) : Option D := ((seqOf d).bind allBls).map fun bs => .bl (bs.any id)
@[simp] def lstOnly : D → Option (List D)
  | .lst ds => some ds
  | _ => none
@[simp] def anyLD (d : D) : Option D := ((lstOnly d).bind allBls).map fun bs => .bl (bs.any id)
@[simp] def allLD (d : D) : Option D := ((lstOnly d).bind allBls).map fun bs => .bl (bs.all id)
theorem lstOnly_some {d : D} {ds : List D} (h : lstOnly d = some ds) : d = .lst ds := by
  unfold lstOnly at h
  split at h
  · cases h
    rfl
  · cases h
theorem bls_tv {K : PySem.W.Frag} {hid O : AS} {H : Hp} {v : V} {x : D} {bs : List Bool} (rv : Tv K hid O H v x) (h : (lstOnly x).bind allBls = some bs) : ∃ p, v = .ref p ∧ SqL K H p (bs.map V.bl) := by
  obtain ⟨ds, h1, h2⟩ := bind_some h
  obtain rfl := lstOnly_some h1
  obtain ⟨p, xs, rfl, h3, h4⟩ := rv.seq
  rw [allBls_some h2] at h4
  rw [RpL.bls_of h4] at h3
  exact ⟨p, rfl, h3⟩
theorem de_any (hc : X.calm = true) (hm : X.mg "any" = none) (ha : DT X a ma) (hg : Gl X "any" := by rfl) (hs : starEach [a] X.env = (false, eval a X.env) :: starEach [] X.env := by rfl) (hpl : (backTo pos (starEach [] X.env)).any (·.1) = false := by rfl) :
    DE X (.Call (.Name "any" p) [a] [] pos) (mUn anyLD ma) := ⟨_, pe_callB (cr_any hc) hg hm (by decide +kernel) (pa_cons ha.pe pa_nil hs) (by decide) (by decide) hs hpl, se_call1 ha.si fun hid O H v x d al rv hx Q q => by
  obtain ⟨bs, h1, rfl⟩ := map_some hx
  obtain ⟨p, rfl, h2⟩ := bls_tv rv h1
  exact ⟨p, bs, rfl, h2, q _ H (Ex.refl H) (.bl _)⟩⟩
theorem de_all (hc : X.calm = true) (hm : X.mg "all" = none) (ha : DT X a ma) (hg : Gl X "all" := by rfl) (hs : starEach [a] X.env = (false, eval a X.env) :: starEach [] X.env := by rfl) (hpl : (backTo pos (starEach [] X.env)).any (·.1) = false := by rfl) :
    DE X (.Call (.Name "all" p) [a] [] pos) (mUn allLD ma) := ⟨_, pe_callB (cr_all hc) hg hm (by decide +kernel) (pa_cons ha.pe pa_nil hs) (by decide) (by decide) hs hpl, se_call1 ha.si fun hid O H v x d al rv hx Q q => by
  obtain ⟨bs, h1, rfl⟩ := map_some hx
  obtain ⟨p, rfl, h2⟩ := bls_tv rv h1
  exact ⟨p, bs, rfl, h2, q _ H (Ex.refl H) (.bl _)⟩⟩
/-- the least, the greatest of a list of ints -/
def minL : List Int → Option Int
  | [] => none
  | [a] => some a
  | a :: as => (minL as).map fun b => if a ≤ b then a else b
def maxL : List Int → Option Int
  | [] => none
  | [a] => some a
  | a :: as => (maxL as).map fun b => if b ≤ a then a else b
theorem minL_ok : ∀ {ns : List Int} {r : Int}, minL ns = some r → r ∈ ns ∧ ∀ y ∈ ns, r ≤ y
  | [a], r, h => by
    cases h
    simp
  | a :: b :: as, r, h => by
    obtain ⟨c, h1, rfl⟩ := map_some (show (minL (b :: as)).map (fun b => if a ≤ b then a else b) = some r from h)
    obtain ⟨h2, h3⟩ := minL_ok h1
    by_cases h4 : a ≤ c
    · rw [if_pos h4]
      refine ⟨List.mem_cons_self .., fun y hy => ?_⟩
      rcases List.mem_cons.mp hy with rfl | hy
      · omega
      · have := h3 y hy
        omega
    · rw [if_neg h4]
      refine ⟨List.mem_cons_of_mem _ h2, fun y hy => ?_⟩
      rcases List.mem_cons.mp hy with rfl | hy
      · omega
      · exact h3 y hy
theorem maxL_ok : ∀ {ns : List Int} {r : Int}, maxL ns = some r → r ∈ ns ∧ ∀ y ∈ ns, y ≤ r
  | [a], r, h => by
    cases h
    simp
  | a :: b :: as, r, h => by
    obtain ⟨c, h1, rfl⟩ := map_some (show (maxL (b :: as)).map (fun b => if b ≤ a then a else b) = some r from h)
    obtain ⟨h2, h3⟩ := maxL_ok h1
    by_cases h4 : c ≤ a
    · rw [if_pos h4]
      refine ⟨List.mem_cons_self .., fun y hy => ?_⟩
      rcases List.mem_cons.mp hy with rfl | hy
      · omega
      · have := h3 y hy
        omega
    · rw [if_neg h4]
      refine ⟨List.mem_cons_of_mem _ h2, fun y hy => ?_⟩
      rcases List.mem_cons.mp hy with rfl | hy
      · omega
      · exact h3 y hy
theorem minL_def : ∀ {ns : List Int}, ns ≠ [] → ∃ r, minL ns = some r
  | [a], _ => ⟨a, rfl⟩
  | a :: b :: as, _ => by
    obtain ⟨r, h⟩ := minL_def (ns := b :: as) (by simp)
    exact ⟨_, by show (minL (b :: as)).map _ = _; rw [h]; rfl⟩
theorem maxL_def : ∀ {ns : List Int}, ns ≠ [] → ∃ r, maxL ns = some r
  | [a], _ => ⟨a, rfl⟩
  | a :: b :: as, _ => by
    obtain ⟨r, h⟩ := maxL_def (ns := b :: as) (by simp)
    exact ⟨_, by show (maxL (b :: as)).map _ = _; rw [h]; rfl⟩
@[simp] def min1D (d : D) : Option D := ((intsOf d).bind minL).map .int
@[simp] def max1D (d : D) : Option D := ((intsOf d).bind maxL).map .int
theorem de_min1 (hc : X.calm = true) (hm : X.mg "min" = none) (ha : DT X a ma) (hg : Gl X "min" := by rfl) (hs : starEach [a] X.env = (false, eval a X.env) :: starEach [] X.env := by rfl) (hpl : (backTo pos (starEach [] X.env)).any (·.1) = false := by rfl) :
    DE X (.Call (.Name "min" p) [a] [] pos) (mUn min1D ma) := ⟨_, pe_callB (cr_min hc) hg hm (by decide +kernel) (pa_cons ha.pe pa_nil hs) (by decide) (by decide) hs hpl, se_call1 ha.si fun hid O H v x d al rv hx Q q => by
  obtain ⟨r, h1, rfl⟩ := map_some hx
  obtain ⟨ns, h2, h3⟩ := bind_some h1
  obtain ⟨p, rfl, h4⟩ := ints_tv rv h2
  obtain ⟨h5, h6⟩ := minL_ok h3
  refine ⟨p, ns, rfl, h4, List.length_pos_of_mem h5, fun m hm1 hm2 => ?_⟩
  have : m = r := by
    have := hm2 r h5
    have := h6 m hm1
    omega
  subst this
  exact q _ H (Ex.refl H) (.int _)⟩
theorem de_max1 (hc : X.calm = true) (hm : X.mg "max" = none) (ha : DT X a ma) (hg : Gl X "max" := by rfl) (hs : starEach [a] X.env = (false, eval a X.env) :: starEach [] X.env := by rfl) (hpl : (backTo pos (starEach [] X.env)).any (·.1) = false := by rfl) :
    DE X (.Call (.Name "max" p) [a] [] pos) (mUn max1D ma) := ⟨_, pe_callB (cr_max hc) hg hm (by decide +kernel) (pa_cons ha.pe pa_nil hs) (by decide) (by decide) hs hpl, se_call1 ha.si fun hid O H v x d al rv hx Q q => by
  obtain ⟨r, h1, rfl⟩ := map_some hx
  obtain ⟨ns, h2, h3⟩ := bind_some h1
  obtain ⟨p, rfl, h4⟩ := ints_tv rv h2
  obtain ⟨h5, h6⟩ := maxL_ok h3
  refine ⟨p, ns, rfl, h4, List.length_pos_of_mem h5, fun m hm1 hm2 => ?_⟩
  have : m = r := by
    have := hm2 r h5
    have := h6 m hm1
    omega
  subst this
  exact q _ H (Ex.refl H) (.int _)⟩
end
end Sx

set_option Elab.async false
set_option linter.all false
set_option maxRecDepth 100000
set_option maxHeartbeats 1000000
namespace Sx
open PySem PySem.Spec PyProof.Rows L2
open Evl (Ex)

/-! ### xs.count(text) -/
def eqs (k : Str) (v : Value) : Bool := match v with
  | .str n _ => n == k
  | _ => false
theorem eqs_count {k : Str} : ∀ {ss : List Str} {us : List Value}, Vals (ss.map V.str) us → us.countP (eqs k) = ss.count k
  | [], _, h => by cases h; rfl
  | s :: ss, _, h => by
    cases h with
    | cons h1 h2 =>
      obtain ⟨t, rfl⟩ := h1
      rw [List.countP_cons, List.count_cons, eqs_count h2] <;> rfl
theorem eqs_at {A : Around} {sh : Shared} {k : Str} {t : Tok} : ∀ {ss : List Str} {us : List Value}, Vals (ss.map V.str) us → ∀ y ∈ us, SeqAt.EqAt A sh y (.str k t) (eqs k y)
  | [], _, h => fun y hy => by cases h; cases hy
  | s :: ss, _, h => fun y hy => by
    cases h with
    | cons h1 h2 =>
      obtain ⟨u, rfl⟩ := h1
      rcases List.mem_cons.mp hy with rfl | hy
      · exact SeqAt.EqAt.str_str s u k t
      · exact eqs_at h2 y hy
def rCntS (K : PySem.W.Frag) : V → List V → Hp → VK → Prop := fun x xs H Q => ∃ (p : Addr) (ss : List Str) (k : Str), x = .ref p ∧ xs = [.str k] ∧ SqL K H p (ss.map V.str) ∧ Q (.int (ss.count k : Nat)) H
theorem mt_lcountS {X : Cx} : MtR X "list.count" (rCntS X.K) := by
  intro pins s σ H x xs v us Q I rx rxs h
  obtain ⟨p, ss, k, rfl, rfl, hs, q⟩ := h
  cases rx
  obtain ⟨u, rfl, ru⟩ := rxs.one
  obtain ⟨t, rfl⟩ := ru
  obtain ⟨its, rv, ⟨⟨cls, dd, data, sl⟩, n, ho, hc, hdn, hd⟩, hlen⟩ := I.list hs
  simp only at hc hd
  subst hc hd
  refine call_meets PySem.F.slot_list_count ⟨_, ho, rfl⟩ PySem.F.entry_list_count (PySem.F.args_list_count_2 _ _)
    (SeqAt.list_countAt p its.toArray n dd sl (.str k t) (eqs k)) ⟨ho, fun y hy => eqs_at rv y (by simpa using hy), ?_⟩
  have ec : its.toArray.toList.countP (eqs k) = ss.count k := eqs_count rv
  refine ⟨.int (ss.count k : Nat), H, I.tok _, ⟨s.toks, ?_⟩, q⟩
  show Value.int ((its.toArray.toList.countP (eqs k) : Nat) : Int) s.toks = Value.int ((ss.count k : Nat) : Int) s.toks
  rw [ec]
section
variable {X : Cx} {e e2 : Expr} {te te2 : TE} {m m2 : En → Option D} {x : Str} {p apos cpos pos : Pos}
@[simp] def cntD : D → D → Option D
  | c, .str z => ((lstOnly c).bind allStrs).map fun ss => .int ((ss.count z : Nat) : Int)
  | _, _ => none
theorem de_cntS (ha : DT X e m) (hb : DT X e2 m2)
    (hbase : attributeBase e "count" X.env (eval e X.env) = eval e X.env := by rfl)
    (hfew : ((backTo cpos (starEach [e2] X.env)).all (fun x => !x.1) && (backToKw cpos (keywordEach [] X.env)).all (fun x => x.1.isSome)
      && decide ([e2].length + ([] : List Keyword).length + (if ([] : List Keyword).isEmpty then 0 else 1) < 30)) = true := by rfl)
    (hline : (apos.endLine == cpos.line) = true := by rfl) (hs : starEach [e2] X.env = (false, eval e2 X.env) :: starEach [] X.env := by rfl) (hplain : (backTo cpos (starEach [] X.env)).any (·.1) = false := by rfl) :
    DE X (.Call (.Attribute e "count" apos) [e2] [] cpos) (mBin cntD m m2) :=
  ⟨_, pe_bm PySem.F.plainAttrs_list PySem.F.slot_list_count PySem.F.type_list_count mt_lcountS ha.pe (pa_cons hb.pe pa_nil hs) hbase hfew hline hs hplain, fun hid O B H σ E d r hm Q q => by
  obtain ⟨a, h1, hm⟩ := bind_some hm
  obtain ⟨b, h2, hm⟩ := bind_some hm
  unfold cntD at hm
  split at hm
  · obtain ⟨ss, h3, rfl⟩ := map_some hm
    obtain ⟨ds, h4, h5⟩ := bind_some h3
    refine ha.si hid O B H σ E a r h1 _ fun v H1 e1 r1 => ?_
    obtain rfl := lstOnly_some h4
    obtain ⟨p', xs, rfl, g1, g2⟩ := r1.lst
    refine ⟨.inl ⟨rfl, xs, .inl (.inl g1)⟩, ?_⟩
    refine hb.si hid O B H1 σ E _ (r.grow e1) h2 _ fun u H2 e2 r2 => ?_
    obtain rfl := r2.str
    rw [allStrs_some h5] at g2
    rw [RpL.strs_of g2] at g1
    exact ⟨p', ss, _, rfl, rfl, .inl (.inl (e2 _ _ g1)), q _ H2 (e1.trans e2) (.int _)⟩
  · cases hm⟩
/-! ### targets = xs.pop() -/
@[simp] def mPopA (i : Nat) (mg : En → D → Option En) : En → Option Out := fun E => match E[i]? with
  | some (.ow ds) => ds.getLast?.bind fun d => (mg (E.set i (.ow ds.dropLast)) d).map .nx
  | _ => none
theorem RpL.dropLast {K : PySem.W.Frag} {H : Hp} {vs : List V} {ds : List D} (h : RpL K H vs ds) : RpL K H vs.dropLast ds.dropLast := by
  rw [List.dropLast_eq_take, List.dropLast_eq_take, h.length]
  exact h.take _
theorem ds_popA (i : Nat) {tg : Expr} {js : List Nat} {mg : En → D → Option En} (hg : DG X tg js mg) (hN : X.N[i]? = some x := by rfl) (hv : Vis X.env.scope x := by first | exact Or.inl rfl | exact Or.inr (Or.inl rfl) | exact Or.inr (Or.inr rfl)) (hd : (x == ("__debug__" : Str)) = false := by decide) (hcd : (x == ("__classdict__" : Str)) = false := by decide)
    (hbase : attributeBase (.Name x p) "pop" X.env (eval (.Name x p) X.env) = eval (.Name x p) X.env := by rfl) (hline : (apos.endLine == cpos.line) = true := by rfl)
    (hs : swapsWithSole [tg] (.Call (.Attribute (.Name x p) "pop" apos) [] [] cpos) pos.line X.env = pure false := by rfl) (hw : swappedStores [tg] (.Call (.Attribute (.Name x p) "pop" apos) [] [] cpos) X.env = pure none := by rfl)
    (h1 : (assignEach [tg] X.env).map (·.2) = [assign tg X.env] := by rfl) :
    DS X (.Assign [tg] (.Call (.Attribute (.Name x p) "pop" apos) [] [] cpos) pos) (mPopA i mg) :=
  ⟨_, ps_asg (pe_bm0 PySem.F.plainAttrs_list PySem.F.slot_list_pop PySem.F.type_list_pop mt_pop (pe_var hN hv hd hcd) hbase hline) hg.pg hs hw h1, fun hid O B H σ E o Dn r hm k => by
  unfold mPopA at hm
  split at hm
  · rename_i ds h2
    obtain ⟨d, h3, hm⟩ := bind_some hm
    obtain ⟨E', h4, rfl⟩ := map_some hm
    obtain ⟨q, xs, g1, g2, g3, g4⟩ := r.ow i ds h2
    refine ⟨.ref q, g1, .inl ⟨rfl, xs, .inl (.inl g3)⟩, ?_⟩
    have h5 : ds[ds.length - 1]? = some d := by rw [← List.getLast?_eq_getElem?]; exact h3
    obtain ⟨y, g5, g6⟩ := g4.get h5
    refine ⟨q, xs, y, rfl, rfl, g3, by rw [g4.length]; exact g5, ?_⟩
    have r2 := r.chg h2 g1 g4.dropLast
    exact hg.si hid O B _ σ _ y d E' r2 (g6.mono (rem_upd (.inr g2)) _) h4 _ fun σ' r' _ => k O σ' _ r'
  · cases hm⟩
/-! ### x op= e -/
@[simp] def mAug (f : Int → Int → Int) (i : Nat) (m : En → Option D) : En → Option Out := fun E => match E[i]? with
  | some (.fz (.int a)) => (m E).bind fun d => match d with
    | .int b => some (.nx (E.set i (.fz (.int (f a b)))))
    | _ => none
  | _ => none
theorem ss_aug {K : PySem.W.Frag} {f : Int → Int → Int} (i : Nat) {te : TE} (h : SE K te m) : SS K (tAug i te (ipI f)) (mAug f i m) := fun hid O B H σ E o Dn r hm k => by
  unfold mAug at hm
  split at hm
  · rename_i a h2
    obtain ⟨d, h3, hm⟩ := bind_some hm
    split at hm
    · cases hm
      obtain ⟨v, g1, g2⟩ := r.fz i _ h2
      cases g2
      refine ⟨_, g1, h hid O B H σ E _ r h3 _ fun v H1 e1 r1 => ?_⟩
      cases r1
      refine ⟨_, _, rfl, rfl, k O _ H1 ((r.grow e1).put i (.int _))⟩
    · cases hm
  · cases hm
theorem ds_augAdd (i : Nat) {pos' : Pos} (hN : X.N.Nodup) (he : DE X e m) (hi : X.N[i]? = some x := by rfl) (hx : Loc X.env.scope x := by first | exact Or.inl rfl | exact Or.inr rfl) (hf : X.fn x = true ∨ X.env.scope.names.lookup x = some .local := by first | exact .inl rfl | exact .inr rfl) :
    DS X (.AugAssign (.Name x pos') .Add e pos) (mAug (fun i j => i + j) i m) := ⟨_, ps_aug hN hi hx he.pe ip_add hf, ss_aug i he.si⟩
theorem ds_augSub (i : Nat) {pos' : Pos} (hN : X.N.Nodup) (he : DE X e m) (hi : X.N[i]? = some x := by rfl) (hx : Loc X.env.scope x := by first | exact Or.inl rfl | exact Or.inr rfl) (hf : X.fn x = true ∨ X.env.scope.names.lookup x = some .local := by first | exact .inl rfl | exact .inr rfl) :
    DS X (.AugAssign (.Name x pos') .Sub e pos) (mAug (fun i j => i - j) i m) := ⟨_, ps_aug hN hi hx he.pe ip_sub hf, ss_aug i he.si⟩
end
/-! ### defs with keyword-only parameters -/
/-- a def of the text, with keyword-only defaults -/
structure StandsK (K : PySem.W.Frag) (mg : Str → Option Value) (x : Str) (st : Stmt) (kws : List (Str × V)) : Prop where
  ex : ∃ (f : Addr) (fd : FuncData), mg x = some (.ref f) ∧ FunD K x x (defArgs st) (defBody st) (defScope st) [] kws f fd
structure CalK (P : Program) (w : World) (K : PySem.W.Frag) (mg : Str → Option Value) (base : Heap) (x : Str) (k n : Nat) (npos : Nat) (ks : List Str) (dvs : List V) (sp : Sp) : Prop where
  ex : ∃ (f : Addr) (fd : FuncData) (ps : List Str), mg x = some (.ref f) ∧ FnOk P w K mg base CX0 k f fd ps sp ∧ PySem.W.keepIn K (.ref f) = true ∧
    (∃ ds, Vals dvs ds ∧ Binds K fd ps ds) ∧ KBn K fd ps npos ks (fun us ws => us ++ ws) (fun vs zs => vs ++ zs)
theorem hid_ok {K : PySem.W.Frag} {hid O : AS} {B H : Hp} {σ : L2.St} {E : En} (re : RE K hid O B H σ E) : ∀ a, orS hid O a → ∃ xs, H a = some (.lst xs) := fun a z => by
  rcases z with z | z
  · obtain ⟨o, z⟩ := re.hidd a z
    exact ⟨o, (re.base a _ z).1⟩
  · exact (re.own a z).2
section
variable {X : Cx} {x : Str} {k n npos : Nat} {ks : List Str} {dvs : List V} {m : List D → Option D} {mF : List D → Option (List D)} {e : Expr} {es : List Expr} {kws : List Keyword} {ma mk : En → Option (List D)} {p pos : Pos} {P : Program} {w : World} {K : PySem.W.Frag} {mg : Str → Option Value} {base : Heap} {A : Around}
/-- keyword arguments -/
def DK (X : Cx) (kws : List Keyword) (m : En → Option (List D)) : Prop := ∃ ta, PK X kws ta ∧ SA X.K ta m
theorem dk_nil : DK X [] mNil := ⟨_, pk_nil, fun hid O B H σ E ds re hm Q q => by
  cases hm
  exact q [] H (Ex.refl H) .nil⟩
theorem dk_cons {nm : Option Str} {kpos : Pos} {m1 : En → Option D} (h : DE X e m1) (hr : DK X kws mk) : DK X (⟨nm, e, kpos⟩ :: kws) (mCons m1 mk) := by
  obtain ⟨ta, h1, h2⟩ := hr
  refine ⟨_, pk_cons h.pe h1, fun hid O B H σ E ds re hm Q q => ?_⟩
  obtain ⟨d, h3, hm⟩ := bind_some hm
  obtain ⟨xs, h4, rfl⟩ := map_some hm
  refine h.si hid O B H σ E d re h3 _ fun v H1 e1 r1 => ?_
  exact h2 hid O B H1 σ E xs (re.grow e1) h4 _ fun vs H2 e2 r2 => q _ H2 (e1.trans e2) (.cons (r1.mono (rem_mono e2) _) r2)
@[simp] def mApL (a b : En → Option (List D)) : En → Option (List D) := fun E => (a E).bind fun xs => (b E).map fun ys => xs ++ ys
@[simp] def mApC (a : En → Option (List D)) (b : List D) : En → Option (List D) := fun E => (a E).map fun xs => xs ++ b
@[simp] def mLen (n : Nat) (a : En → Option (List D)) : En → Option (List D) := fun E => (a E).bind fun xs => if xs.length = n then some xs else none
theorem RpL.appI {H : Hp} : ∀ {vs us : List V} {ds es : List D}, RpL K H vs ds → RpL K H us es → RpL K H (vs ++ us) (ds ++ es) := RpL.app
theorem de_callK (G : CalK P w K mg base x k n npos ks dvs (spD K n m)) (hr : Room k A) (ha : DA X (e :: es) ma) (hk : DK X kws mk) (hA : X.A = A := by rfl) (hP : X.prog = P := by rfl) (hw : X.w = w := by rfl) (hK : X.K = K := by rfl) (hmg : X.mg = mg := by rfl) (hba : X.base = base := by rfl) (hg : Gl X x := by rfl)
    (hall : (backToKw pos (keywordEach kws X.env)).all (·.1.isSome) = true := by rfl) (hks : (backToKw pos (keywordEach kws X.env)).filterMap (·.1) = ks := by rfl)
    (hdb : (x == ("__debug__" : Str)) = false := by decide) (he : starEach (e :: es) X.env = (false, eval e X.env) :: starEach es X.env := by rfl)
    (hpl : ((backTo pos (starEach (e :: es) X.env)).any (·.1) || (backToKw pos (keywordEach kws X.env)).any (·.1.isNone)) = false := by rfl) :
    DE X (.Call (.Name x p) (e :: es) kws pos) (mCall n m (mApL (mLen npos ma) (mLen ks.length mk))) := by
  subst hA hP hw hK hmg hba
  obtain ⟨f, fd, ps, g1, g2, g3, _, g5⟩ := G.ex
  obtain ⟨tk, hk1, hk2⟩ := hk
  refine ⟨_, pe_callN g2 hr hg g1 g3 g5 pass0 ha.pa hk1 hall hks hdb he hpl, fun hid O B H σ E d re hm Q q => ?_⟩
  obtain ⟨ds, h1, hm⟩ := bind_some hm
  obtain ⟨l1, hm⟩ := (show ds.length = n ∧ m ds = some d by
    by_cases hl : ds.length = n
    · rw [if_pos hl] at hm
      exact ⟨hl, hm⟩
    · rw [if_neg hl] at hm
      cases hm)
  obtain ⟨xs, h2, h1'⟩ := bind_some h1
  obtain ⟨ys, h3, rfl⟩ := map_some h1'
  obtain ⟨xs', h2', h4'⟩ := bind_some h2
  obtain ⟨h4, rfl⟩ := ite_some h4'
  obtain ⟨ys', h3', h5'⟩ := bind_some h3
  obtain ⟨h5, rfl⟩ := ite_some h5'
  refine ha.si hid O B H σ E _ re h2' _ fun vs H1 e1 r1 => ?_
  refine hk2 hid O B H1 σ E _ (re.grow e1) h3' _ fun zs H2 e2 r2 => ⟨by rw [r1.length, h4], by rw [r2.length, h5], ?_⟩
  exact ⟨orS hid O, _, d, hid_ok ((re.grow e1).grow e2), (RpL.mono (rem_mono e2) _ r1).app r2, l1, hm, fun v H3 e3 r3 => q v H3 ((e1.trans e2).trans e3) r3⟩
theorem df_callK (G : CalK P w K mg base x k n npos ks dvs (spF K n mF)) (hr : Room k A) (ha : DA X (e :: es) ma) (hk : DK X kws mk) (hA : X.A = A := by rfl) (hP : X.prog = P := by rfl) (hw : X.w = w := by rfl) (hK : X.K = K := by rfl) (hmg : X.mg = mg := by rfl) (hba : X.base = base := by rfl) (hg : Gl X x := by rfl)
    (hall : (backToKw pos (keywordEach kws X.env)).all (·.1.isSome) = true := by rfl) (hks : (backToKw pos (keywordEach kws X.env)).filterMap (·.1) = ks := by rfl)
    (hdb : (x == ("__debug__" : Str)) = false := by decide) (he : starEach (e :: es) X.env = (false, eval e X.env) :: starEach es X.env := by rfl)
    (hpl : ((backTo pos (starEach (e :: es) X.env)).any (·.1) || (backToKw pos (keywordEach kws X.env)).any (·.1.isNone)) = false := by rfl) :
    DF X (.Call (.Name x p) (e :: es) kws pos) (mCallF n mF (mApL (mLen npos ma) (mLen ks.length mk))) := by
  subst hA hP hw hK hmg hba
  obtain ⟨f, fd, ps, g1, g2, g3, _, g5⟩ := G.ex
  obtain ⟨tk, hk1, hk2⟩ := hk
  refine ⟨_, pe_callN g2 hr hg g1 g3 g5 pass0 ha.pa hk1 hall hks hdb he hpl, fun hid O B H σ E d re hm Q q => ?_⟩
  obtain ⟨ds, h1, hm⟩ := bind_some hm
  obtain ⟨l1, hm⟩ := (show ds.length = n ∧ mF ds = some d by
    by_cases hl : ds.length = n
    · rw [if_pos hl] at hm
      exact ⟨hl, hm⟩
    · rw [if_neg hl] at hm
      cases hm)
  obtain ⟨xs, h2, h1'⟩ := bind_some h1
  obtain ⟨ys, h3, rfl⟩ := map_some h1'
  obtain ⟨xs', h2', h4'⟩ := bind_some h2
  obtain ⟨h4, rfl⟩ := ite_some h4'
  obtain ⟨ys', h3', h5'⟩ := bind_some h3
  obtain ⟨h5, rfl⟩ := ite_some h5'
  refine ha.si hid O B H σ E _ re h2' _ fun vs H1 e1 r1 => ?_
  refine hk2 hid O B H1 σ E _ (re.grow e1) h3' _ fun zs H2 e2 r2 => ⟨by rw [r1.length, h4], by rw [r2.length, h5], ?_⟩
  exact ⟨orS hid O, _, d, hid_ok ((re.grow e1).grow e2), (RpL.mono (rem_mono e2) _ r1).app r2, l1, hm, fun p xs H3 hp e3 hx r3 => q p xs H3 (Evl.fresh_back (e1.trans e2) hp) ((e1.trans e2).trans e3) hx r3⟩
theorem de_callD (G : CalK P w K mg base x k n npos ks dvs (spD K n m)) (dds : List D) (hdd : ∀ H, RpL K H dvs dds) (hr : Room k A) (ha : DA X (e :: es) ma) (hA : X.A = A := by rfl) (hP : X.prog = P := by rfl) (hw : X.w = w := by rfl) (hK : X.K = K := by rfl) (hmg : X.mg = mg := by rfl) (hba : X.base = base := by rfl) (hg : Gl X x := by rfl) (hdb : (x == ("__debug__" : Str)) = false := by decide) (he : starEach (e :: es) X.env = (false, eval e X.env) :: starEach es X.env := by rfl) (hpl : (backTo pos (starEach es X.env)).any (·.1) = false := by rfl) :
    DE X (.Call (.Name x p) (e :: es) [] pos) (mCall n m (mApC ma dds)) := by
  subst hA hP hw hK hmg hba
  obtain ⟨f, fd, ps, g1, g2, g3, ⟨ws, g4, g5⟩, _⟩ := G.ex
  refine ⟨_, pe_call g2 hr hg g1 g3 g5 g4 pass0 ha.pa hdb he hpl, fun hid O B H σ E d re hm Q q => ?_⟩
  obtain ⟨ds, h1, hm⟩ := bind_some hm
  obtain ⟨l1, hm⟩ := (show ds.length = n ∧ m ds = some d by
    by_cases hl : ds.length = n
    · rw [if_pos hl] at hm
      exact ⟨hl, hm⟩
    · rw [if_neg hl] at hm
      cases hm)
  obtain ⟨xs, h2, rfl⟩ := map_some h1
  refine ha.si hid O B H σ E _ re h2 _ fun vs H1 e1 r1 => ?_
  exact ⟨orS hid O, _, d, hid_ok (re.grow e1), r1.app (hdd _), l1, hm, fun v H3 e3 r3 => q v H3 (e1.trans e3) r3⟩
theorem df_callD (G : CalK P w K mg base x k n npos ks dvs (spF K n mF)) (dds : List D) (hdd : ∀ H, RpL K H dvs dds) (hr : Room k A) (ha : DA X (e :: es) ma) (hA : X.A = A := by rfl) (hP : X.prog = P := by rfl) (hw : X.w = w := by rfl) (hK : X.K = K := by rfl) (hmg : X.mg = mg := by rfl) (hba : X.base = base := by rfl) (hg : Gl X x := by rfl) (hdb : (x == ("__debug__" : Str)) = false := by decide) (he : starEach (e :: es) X.env = (false, eval e X.env) :: starEach es X.env := by rfl) (hpl : (backTo pos (starEach es X.env)).any (·.1) = false := by rfl) :
    DF X (.Call (.Name x p) (e :: es) [] pos) (mCallF n mF (mApC ma dds)) := by
  subst hA hP hw hK hmg hba
  obtain ⟨f, fd, ps, g1, g2, g3, ⟨ws, g4, g5⟩, _⟩ := G.ex
  refine ⟨_, pe_call g2 hr hg g1 g3 g5 g4 pass0 ha.pa hdb he hpl, fun hid O B H σ E d re hm Q q => ?_⟩
  obtain ⟨ds, h1, hm⟩ := bind_some hm
  obtain ⟨l1, hm⟩ := (show ds.length = n ∧ mF ds = some d by
    by_cases hl : ds.length = n
    · rw [if_pos hl] at hm
      exact ⟨hl, hm⟩
    · rw [if_neg hl] at hm
      cases hm)
  obtain ⟨xs, h2, rfl⟩ := map_some h1
  refine ha.si hid O B H σ E _ re h2 _ fun vs H1 e1 r1 => ?_
  exact ⟨orS hid O, _, d, hid_ok (re.grow e1), r1.app (hdd _), l1, hm, fun p xs H3 hp e3 hx r3 => q p xs H3 (Evl.fresh_back e1 hp) (e1.trans e3) hx r3⟩
end
section
variable {P : Program} {w : World} {K : PySem.W.Frag} {mg : Str → Option Value} {base : Heap}
theorem fn_mkK {x : Str} {st : Stmt} {N ps : List Str} {k n : Nat} {m : En → Option Out} {f : Addr} {fd : FuncData} {dv : List V} {kws : List (Str × V)} (F : FunD K x x (defArgs st) (defBody st) (defScope st) dv kws f fd) (S : FnScope N ps (defScope st)) (hn : ps.length = n)
    (hbody : ∀ (cdv : Value) (A : Around) (outer : List Env) (s : Shared) (H : Hp) (E : XK), Room k (A.deeper (envOfC x (defScope st) s.heap.objs.size f cdv)) →
      DSs (cxOf CX0 P w K mg base N x (defScope st) f cdv A outer s H E).nox (defBody st) m) : FnOk P w K mg base CX0 (k + 1) f fd ps (spD K n (callM n N.length m)) := by
  refine F.ok S (fun vs H Q E h => ?_) (fun cdv A outer s H vs Q E hr h => ?_)
  · obtain ⟨hid, ds, d, _, h1, h2, _⟩ := h
    rw [h1.length, h2, hn]
  · obtain ⟨hid, ds, d, h0, h1, h2, h3, q⟩ := h
    have T := hbody cdv A outer s H E hr
    refine ⟨_, T.ps.nox, ?_⟩
    have r0 : RE K hid noS H H (start N vs) (ds.map Sl.fz ++ List.replicate (N.length - ds.length) Sl.un) := RE.start h0 h1
    unfold callM at h3
    split at h3
    · rename_i d' e
      cases h3
      exact T.si hid noS H H _ _ (.rt d) _ r0 e fun v H' ex rv => q v H' ex rv
    · rename_i es e
      cases h3
      exact T.si hid noS H H _ _ (.rf es) _ r0 e fun p xs H' hp ex hx rv => q _ H' ex (.lst (rem_some.mpr ⟨fun z => (by
        obtain ⟨ys, z⟩ := h0 p z
        rw [hp] at z
        cases z), hx⟩) (rv.mono (rem_sub fun a z => .inl z) es))
    · rename_i E' e
      cases h3
      exact T.si hid noS H H _ _ (.nx E') _ r0 e fun O' σ' H' r' => q .non H' r'.ex .non
    · cases h3
theorem fnF_mkK {x : Str} {st : Stmt} {N ps : List Str} {k n : Nat} {m : En → Option Out} {f : Addr} {fd : FuncData} {dv : List V} {kws : List (Str × V)} (F : FunD K x x (defArgs st) (defBody st) (defScope st) dv kws f fd) (S : FnScope N ps (defScope st)) (hn : ps.length = n)
    (hbody : ∀ (cdv : Value) (A : Around) (outer : List Env) (s : Shared) (H : Hp) (E : XK), Room k (A.deeper (envOfC x (defScope st) s.heap.objs.size f cdv)) →
      DSs (cxOf CX0 P w K mg base N x (defScope st) f cdv A outer s H E).nox (defBody st) m) : FnOk P w K mg base CX0 (k + 1) f fd ps (spF K n (callF n N.length m)) := by
  refine F.ok S (fun vs H Q E h => ?_) (fun cdv A outer s H vs Q E hr h => ?_)
  · obtain ⟨hid, ds, d, _, h1, h2, _⟩ := h
    rw [h1.length, h2, hn]
  · obtain ⟨hid, ds, es, h0, h1, h2, h3, q⟩ := h
    have T := hbody cdv A outer s H E hr
    refine ⟨_, T.ps.nox, ?_⟩
    have r0 : RE K hid noS H H (start N vs) (ds.map Sl.fz ++ List.replicate (N.length - ds.length) Sl.un) := RE.start h0 h1
    unfold callF at h3
    split at h3
    · rename_i es' e
      cases h3
      exact T.si hid noS H H _ _ (.rf es) _ r0 e fun p xs H' hp ex hx rv => q p xs H' hp ex hx rv
    · cases h3
theorem calK_of {x : Str} {st : Stmt} {ps : List Str} {k n npos : Nat} {kws : List (Str × V)} {sp : Sp} (F : StandsK K mg x st kws) (hk : kws ≠ [])
    (hn : npos + kws.length = ps.length)
    (hb0 : ∀ (D : Addr) (doc pm : Value) (an : Option Addr) (cdv ct : Value) (us ks : List Value), us.length = npos → ks.length = kws.length →
      KwChain D ((kws.map (·.1)).zip ks) (bindArgs (PySem.W.fnOf x x (defArgs st) (defBody st) (defScope st) .none (.ref D) doc pm an cdv ct) ⟨us, []⟩) (ps.zip (us ++ ks)))
    (hb1 : ∀ (D : Addr) (doc pm : Value) (an : Option Addr) (cdv ct : Value) (us ws : List Value), us.length = npos → ws.length = (kws.map (·.1)).length →
      bindArgs (PySem.W.fnOf x x (defArgs st) (defBody st) (defScope st) .none (.ref D) doc pm an cdv ct) ⟨us, (kws.map (·.1)).zip ws⟩ = pure (ps.zip (us ++ ws)))
    (h : ∀ {f : Addr} {fd : FuncData}, FunD K x x (defArgs st) (defBody st) (defScope st) [] kws f fd → FnOk P w K mg base CX0 k f fd ps sp) : CalK P w K mg base x k n npos (kws.map (·.1)) (kws.map (·.2)) sp := by
  obtain ⟨f, fd, g, F⟩ := F.ex
  obtain ⟨mv, kb⟩ := F.kbinds0 (ps := ps) npos (kws.map (·.1)) [] (fun us _ ws => us ++ ws) hk (fun q hq => by cases hq) (fun r1 _ r3 => r1.append r3) (fun D doc pm an cdv ct us mv ws l1 l2 l3 => by
    cases mv with
    | nil => exact hb1 D doc pm an cdv ct us ws l1 l3
    | cons _ _ => cases l2)
  exact ⟨f, fd, ps, g, h F, F.kp, F.binds0 npos hk hn hb0, kb⟩
end
end Sx

set_option Elab.async false
set_option linter.all false
set_option maxRecDepth 100000
set_option maxHeartbeats 2000000
namespace Sx
open PySem L2
theorem mulOk_l {i j : Int} (h : -18446744073709551616 < i ∧ i < 18446744073709551616) : mulOk i j = true := by
  unfold mulOk
  rw [Bool.or_eq_true_iff]
  left
  rw [decide_eq_true_eq]
  omega
theorem mulOk_r {i j : Int} (h : -18446744073709551616 < j ∧ j < 18446744073709551616) : mulOk i j = true := by
  unfold mulOk
  rw [Bool.or_eq_true_iff]
  right
  rw [decide_eq_true_eq]
  omega
theorem divOk_c {i j : Int} (h : 0 < j ∧ j < 1073741824) : divOk i j = true := by
  unfold divOk
  rw [decide_eq_true h.1, decide_eq_true h.2]
  rfl
theorem powOk_c {i j : Int} (h : 0 ≤ j ∧ j ≤ 1000000) (h2 : i.natAbs < 18446744073709551616) : powOk i j = true := by
  unfold powOk
  rw [decide_eq_true h.1, decide_eq_true h.2, decide_eq_true h2]
  rfl
theorem mul1 (a : Int) : mulOk 48271 a = true := mulOk_l (by omega)
theorem runFor_inv {mg : En → D → Option En} {mb : En → Option Out} (I : Nat → En → Prop) : ∀ (ds : List D) (i : Nat) (E : En), I i E →
    (∀ (j : Nat) (d : D) (E : En), ds[j]? = some d → I (i + j) E → ∃ E1 E2, mg E d = some E1 ∧ (mb E1 = some (.nx E2) ∨ mb E1 = some (.ct E2)) ∧ I (i + j + 1) E2) → ∃ E', runFor mg mb ds E = some (.nx E') ∧ I (i + ds.length) E'
  | [], i, E, h, _ => ⟨E, rfl, h⟩
  | d :: ds, i, E, h, hs => by
    obtain ⟨E1, E2, h1, h2, h3⟩ := hs 0 d E rfl h
    obtain ⟨E', h4, h5⟩ := runFor_inv (mg := mg) (mb := mb) I ds (i + 1) E2 h3 fun j d' E' hj hI => by
      have e : i + 1 + j = i + (j + 1) := by omega
      rw [e] at hI ⊢
      exact hs (j + 1) d' E' (by simpa using hj) hI
    refine ⟨E', ?_, by rw [List.length_cons, show i + (ds.length + 1) = i + 1 + ds.length by omega]; exact h5⟩
    show (mg E d).bind _ = _
    rw [h1]
    show (mb E1).bind _ = _
    rcases h2 with h2 | h2 <;> rw [h2] <;> exact h4
/-- each turn goes on or gives back -/
theorem runFor_find {mg : En → D → Option En} {mb : En → Option Out} (I : Nat → En → Prop) (R : Nat → D → Prop) : ∀ (ds : List D) (i : Nat) (E : En), I i E →
    (∀ (j : Nat) (d : D) (E : En), ds[j]? = some d → I (i + j) E → ∃ E1, mg E d = some E1 ∧ ((∃ E2, (mb E1 = some (.nx E2) ∨ mb E1 = some (.ct E2)) ∧ I (i + j + 1) E2) ∨ ∃ r, mb E1 = some (.rt r) ∧ R (i + j) r)) →
    (∃ E', runFor mg mb ds E = some (.nx E') ∧ I (i + ds.length) E') ∨ ∃ j r, runFor mg mb ds E = some (.rt r) ∧ j < ds.length ∧ R (i + j) r
  | [], i, E, h, _ => .inl ⟨E, rfl, h⟩
  | d :: ds, i, E, h, hs => by
    obtain ⟨E1, h1, ⟨E2, h2, h3⟩ | ⟨r, h2, h3⟩⟩ := hs 0 d E rfl h
    · have run : runFor mg mb (d :: ds) E = runFor mg mb ds E2 := by
        show (mg E d).bind _ = _
        rw [h1]
        show (mb E1).bind _ = _
        rcases h2 with h2 | h2 <;> rw [h2] <;> rfl
      rw [run]
      rcases runFor_find (mg := mg) (mb := mb) I R ds (i + 1) E2 h3 fun j d' E' hj hI => by
        have e : i + 1 + j = i + (j + 1) := by omega
        rw [e] at hI ⊢
        exact hs (j + 1) d' E' (by simpa using hj) hI with ⟨E', h4, h5⟩ | ⟨j, r, h4, h5, h6⟩
      · exact .inl ⟨E', h4, by rw [List.length_cons, show i + (ds.length + 1) = i + 1 + ds.length by omega]; exact h5⟩
      · exact .inr ⟨j + 1, r, h4, by rw [List.length_cons]; omega, by rw [show i + (j + 1) = i + 1 + j by omega]; exact h6⟩
    · refine .inr ⟨0, r, ?_, by rw [List.length_cons]; omega, h3⟩
      show (mg E d).bind _ = _
      rw [h1]
      show (mb E1).bind _ = _
      rw [h2]
      rfl
theorem runComp_enc {α β : Type} {mg : En → D → Option En} {mt : En → Option Bool} {me : En → Option D} {E0 : En} (f : α → D) (g : β → D) (P : α → β → Prop) : ∀ (xs : List α),
    (∀ x ∈ xs, ∃ E1 y, mg E0 (f x) = some E1 ∧ mt E1 = some true ∧ me E1 = some (g y) ∧ P x y) → ∃ ys : List β, runComp mg mt me E0 (xs.map f) = some (ys.map g) ∧ Paired P xs ys
  | [], _ => ⟨[], rfl, .nil⟩
  | x :: xs, h => by
    obtain ⟨E1, y, h1, h2, h3, h4⟩ := h x (List.mem_cons_self ..)
    obtain ⟨ys, h5, h6⟩ := runComp_enc (mg := mg) (mt := mt) (me := me) (E0 := E0) f g P xs fun z hz => h z (List.mem_cons_of_mem _ hz)
    refine ⟨y :: ys, ?_, .cons h4 h6⟩
    show (mg E0 (f x)).bind _ = _
    rw [h1]
    show (mt E1).bind _ = _
    rw [h2]
    show (if true = true then (me E1).bind (fun r => (runComp mg mt me E0 (xs.map f)).map (r :: ·)) else runComp mg mt me E0 (xs.map f)) = _
    rw [if_pos rfl, h3]
    show (runComp mg mt me E0 (xs.map f)).map (fun rs => g y :: rs) = _
    rw [h5]
    rfl
theorem runComp_filt {α β : Type} {mg : En → D → Option En} {mt : En → Option Bool} {me : En → Option D} {E0 : En} (f : α → D) (g : α → D) (p : α → Bool) : ∀ (xs : List α),
    (∀ x ∈ xs, ∃ E1, mg E0 (f x) = some E1 ∧ mt E1 = some (p x) ∧ (p x = true → me E1 = some (g x))) → runComp mg mt me E0 (xs.map f) = some ((xs.filter p).map g)
  | [], _ => rfl
  | x :: xs, h => by
    obtain ⟨E1, h1, h2, h3⟩ := h x (List.mem_cons_self ..)
    have h5 := runComp_filt (β := β) (mg := mg) (mt := mt) (me := me) (E0 := E0) f g p xs fun z hz => h z (List.mem_cons_of_mem _ hz)
    show (mg E0 (f x)).bind _ = _
    rw [h1]
    show (mt E1).bind _ = _
    rw [h2]
    show (if p x = true then (me E1).bind (fun r => (runComp mg mt me E0 (xs.map f)).map (r :: ·)) else runComp mg mt me E0 (xs.map f)) = _
    by_cases hp : p x = true
    · rw [if_pos hp, h3 hp, List.filter_cons, if_pos hp]
      show (runComp mg mt me E0 (xs.map f)).map (fun rs => g x :: rs) = _
      rw [h5]
      rfl
    · rw [if_neg hp, List.filter_cons, if_neg hp]
      exact h5
theorem Paired.len {α β : Type} {P : α → β → Prop} : ∀ {xs : List α} {ys : List β}, Paired P xs ys → xs.length = ys.length
  | _, _, .nil => rfl
  | _, _, .cons _ t => congrArg Nat.succ (Paired.len t)
theorem Paired.mem {α β : Type} {P : α → β → Prop} : ∀ {xs : List α} {ys : List β} {y : β}, Paired P xs ys → y ∈ ys → ∃ x ∈ xs, P x y
  | _, _, _, .nil, h => by cases h
  | _, _, y, .cons r t, h => by
    rcases List.mem_cons.mp h with e | e
    · subst e
      exact ⟨_, List.mem_cons_self .., r⟩
    · obtain ⟨x, h1, h2⟩ := Paired.mem t e
      exact ⟨x, List.mem_cons_of_mem _ h1, h2⟩
theorem Paired.at {α β : Type} {P : α → β → Prop} : ∀ {xs : List α} {ys : List β} {i : Nat} {x : α} {y : β}, Paired P xs ys → xs[i]? = some x → ys[i]? = some y → P x y
  | _, _, _, _, _, .nil, h, _ => by simp at h
  | _, _, 0, _, _, .cons r t, h, g => by
    simp at h g
    subst h
    subst g
    exact r
  | _, _, i + 1, _, _, .cons r t, h, g => Paired.at (i := i) t (by simpa using h) (by simpa using g)
theorem atI_nat' {α : Type} {xs : List α} {i : Int} (h0 : 0 ≤ i) (h : i < xs.length) : ∃ x, atI xs i = some x ∧ xs[i.toNat]? = some x := by
  have hl : i.toNat < xs.length := by omega
  refine ⟨xs[i.toNat], ?_, List.getElem?_eq_getElem hl⟩
  unfold atI ixN
  rw [if_pos h0, if_pos h]
  exact List.getElem?_eq_getElem hl
theorem atI_mapD {α : Type} {f : α → D} {xs : List α} {i : Int} (h0 : 0 ≤ i) (h : i < xs.length) : ∃ x, atI (xs.map f) i = some (f x) ∧ xs[i.toNat]? = some x := by
  obtain ⟨x, h1, h2⟩ := atI_nat' h0 h
  exact ⟨x, by rw [atI_map, h1]; rfl, h2⟩
theorem range_at {lo : Int} {n j : Nat} {d : D} (h : (rangeD lo n)[j]? = some d) : d = .int (lo + j) ∧ j < n := by
  have hj : j < n := by
    have := (List.getElem?_eq_some_iff.mp h).1
    rwa [rangeD_len] at this
  rw [rangeD_get hj] at h
  exact ⟨(Option.some.inj h).symm, hj⟩
theorem ints_at {ns : List Int} {j : Nat} {d : D} (h : (ns.map D.int)[j]? = some d) : ∃ c, d = .int c ∧ ns[j]? = some c := by
  rw [List.getElem?_map] at h
  obtain ⟨c, h1, rfl⟩ := map_some h
  exact ⟨c, rfl, h1⟩
theorem map_at {α : Type} {f : α → D} {xs : List α} {j : Nat} {d : D} (h : (xs.map f)[j]? = some d) : ∃ x, d = f x ∧ xs[j]? = some x := by
  rw [List.getElem?_map] at h
  obtain ⟨c, h1, rfl⟩ := map_some h
  exact ⟨c, rfl, h1⟩
end Sx

set_option Elab.async false
set_option linter.all false
set_option maxRecDepth 100000
set_option maxHeartbeats 2000000
namespace Sx
open PySem L2
mutual
def okD : D → Bool
  | .str x => PyData.strOk x
  | .lst ds => okDs ds
  | .tup ds => okDs ds
  | _ => true
def okDs : List D → Bool
  | [] => true
  | d :: ds => okD d && okDs ds
end
mutual
def depD : D → Nat
  | .lst ds => depDs ds + 1
  | .tup ds => depDs ds + 1
  | .scr _ => 1
  | _ => 0
def depDs : List D → Nat
  | [] => 0
  | d :: ds => max (depD d) (depDs ds)
end
theorem ints_eqv : ∀ ns : List Int, PyData.eqvAll (ns.map .int) (ns.map .int) = true
  | [] => by rw [List.map_nil, PyData.eqvAll]
  | n :: ns => by rw [List.map_cons, PyData.eqvAll, PyData.eqv, ints_eqv ns]; simp
theorem ints_lay : ∀ ns : List Int, PyData.canLayAll0 (ns.map .int) = true
  | [] => by rw [List.map_nil, PyData.canLayAll0]
  | n :: ns => by rw [List.map_cons, PyData.canLayAll0, PyData.canLay0, ints_lay ns]; rfl
theorem ints_dep : ∀ ns : List Int, PyData.depthAll (ns.map .int) = 0
  | [] => by rw [List.map_nil, PyData.depthAll]
  | n :: ns => by rw [List.map_cons, PyData.depthAll, PyData.depth, ints_dep ns]; rfl
mutual
theorem py_eqv : ∀ d : D, PyData.eqv d.py d.py = true
  | .non => by rw [D.py, PyData.eqv]
  | .bl b => by rw [D.py, PyData.eqv]; simp
  | .int i => by rw [D.py, PyData.eqv]; simp
  | .str x => by rw [D.py, PyData.eqv]; simp
  | .lst ds => by rw [D.py, PyData.eqv]; exact pys_eqv ds
  | .tup ds => by rw [D.py, PyData.eqv]; exact pys_eqv ds
  | .scr ns => by rw [D.py, PyData.eqv]; exact ints_eqv ns
theorem pys_eqv : ∀ ds : List D, PyData.eqvAll (D.pys ds) (D.pys ds) = true
  | [] => by rw [D.pys, PyData.eqvAll]
  | d :: ds => by rw [D.pys, PyData.eqvAll, py_eqv d, pys_eqv ds]; rfl
end
mutual
theorem py_lay : ∀ d : D, okD d = true → PyData.canLay0 d.py = true
  | .non, _ => by rw [D.py, PyData.canLay0]
  | .bl b, _ => by rw [D.py, PyData.canLay0]
  | .int i, _ => by rw [D.py, PyData.canLay0]
  | .str x, h => by rw [okD] at h; rw [D.py, PyData.canLay0]; exact h
  | .lst ds, h => by rw [okD] at h; rw [D.py, PyData.canLay0]; exact pys_lay ds h
  | .tup ds, h => by rw [okD] at h; rw [D.py, PyData.canLay0]; exact pys_lay ds h
  | .scr ns, _ => by rw [D.py, PyData.canLay0]; exact ints_lay ns
theorem pys_lay : ∀ ds : List D, okDs ds = true → PyData.canLayAll0 (D.pys ds) = true
  | [], _ => by rw [D.pys, PyData.canLayAll0]
  | d :: ds, h => by
    rw [okDs] at h
    obtain ⟨h1, h2⟩ := Bool.and_eq_true_iff.mp h
    rw [D.pys, PyData.canLayAll0, py_lay d h1, pys_lay ds h2]
    rfl
end
mutual
theorem py_dep : ∀ d : D, PyData.depth d.py = depD d
  | .non => by rw [D.py, PyData.depth]; rfl
  | .bl b => by rw [D.py, PyData.depth]; rfl
  | .int i => by rw [D.py, PyData.depth]; rfl
  | .str x => by rw [D.py, PyData.depth]; rfl
  | .lst ds => by rw [D.py, PyData.depth, depD, pys_dep ds]
  | .tup ds => by rw [D.py, PyData.depth, depD, pys_dep ds]
  | .scr ns => by rw [D.py, PyData.depth, depD, ints_dep ns]
theorem pys_dep : ∀ ds : List D, PyData.depthAll (D.pys ds) = depDs ds
  | [] => by rw [D.pys, PyData.depthAll, depDs]
  | d :: ds => by rw [D.pys, PyData.depthAll, depDs, py_dep d, pys_dep ds]
end
theorem shaped_of {d : D} (h : okD d = true) (hd : depD d ≤ 64) : SeqAt.shaped d.py = true := by
  unfold SeqAt.shaped
  rw [py_lay d h, py_dep d, decide_eq_true hd]
  rfl
theorem eqB_lst {ds : List D} (h : okDs ds = true) (hd : depDs ds ≤ 60) : eqB (.lst ds) (.lst ds) = some true := by
  have s := shaped_of (d := .lst ds) (by rw [okD]; exact h) (by rw [depD]; omega)
  show (if SeqAt.shaped (D.lst ds).py = true ∧ SeqAt.shaped (D.lst ds).py = true then some (PyData.eqv (D.lst ds).py (D.lst ds).py) else none) = _
  rw [if_pos ⟨s, s⟩, py_eqv]
theorem okDs_map {α : Type} {f : α → D} : ∀ {xs : List α}, (∀ x ∈ xs, okD (f x) = true) → okDs (xs.map f) = true
  | [], _ => by rw [List.map_nil, okDs]
  | x :: xs, h => by
    rw [List.map_cons, okDs, h x (List.mem_cons_self ..), okDs_map fun y hy => h y (List.mem_cons_of_mem _ hy)]
    rfl
theorem depDs_map {α : Type} {f : α → D} {n : Nat} : ∀ {xs : List α}, (∀ x ∈ xs, depD (f x) ≤ n) → depDs (xs.map f) ≤ n
  | [], _ => by rw [List.map_nil, depDs]; omega
  | x :: xs, h => by
    rw [List.map_cons, depDs]
    have := h x (List.mem_cons_self ..)
    have := depDs_map fun y hy => h y (List.mem_cons_of_mem _ hy)
    omega
theorem eqB_map {α : Type} {f : α → D} {xs : List α} (h : ∀ x ∈ xs, okD (f x) = true) (hd : ∀ x ∈ xs, depD (f x) ≤ 60) : eqB (.lst (xs.map f)) (.lst (xs.map f)) = some true := eqB_lst (okDs_map h) (depDs_map hd)
theorem kit_bb : kitB "bool" "bool" = some true := by decide +kernel
theorem kit_ii : kitB "int" "int" = some true := by decide +kernel
theorem kit_ib : kitB "int" "bool" = some false := by decide +kernel
end Sx

set_option Elab.async false
set_option linter.all false
set_option maxRecDepth 100000
set_option maxHeartbeats 4000000
namespace Sx
open PySem L2
def cutG {α : Type} (xs : List α) (lo hi : Option Int) : List α := (xs.drop (HT.sIx xs.length 0 lo)).take (HT.sIx xs.length xs.length hi - HT.sIx xs.length 0 lo)
theorem cutD_map {α : Type} (f : α → D) (xs : List α) (lo hi : Option Int) : cutD (xs.map f) lo hi = (cutG xs lo hi).map f := by
  unfold cutD cutG
  rw [List.length_map, List.map_take, List.map_drop]
theorem sIx_pos {n d : Nat} {i : Int} (h : 0 ≤ i) : HT.sIx n d (some i) = min i.toNat n := by
  obtain ⟨k, rfl⟩ : ∃ k : Nat, i = k := ⟨i.toNat, by omega⟩
  exact HT.sIx_nat n d k
theorem cutG_ab {α : Type} {xs : List α} {a b : Int} (h : 0 ≤ a ∧ a ≤ b ∧ b ≤ xs.length) : cutG xs (some a) (some b) = (xs.drop a.toNat).take (b - a).toNat := by
  unfold cutG
  rw [sIx_pos h.1, sIx_pos (by omega)]
  congr 1
  · omega
  · congr 1
    omega
theorem seq_nx {a b : En → Option Out} {E : En} (E1 : En) (h : a E = some (.nx E1)) : mSeq a b E = b E1 := by
  show (a E).bind _ = _
  rw [h]
  rfl
theorem seq_rt {a b : En → Option Out} {E : En} {d : D} (h : a E = some (.rt d)) : mSeq a b E = some (.rt d) := by
  show (a E).bind _ = _
  rw [h]
  rfl
def run (o : Option Out) : Option D := match o with
  | some (.rt d) => some d
  | some (.rf ds) => some (.lst ds)
  | some (.nx _) => some .non
  | _ => none
theorem mat_nx {a b : En → Option Out} {E : En} {d : D} (E1 : En) (h : a E = some (.nx E1)) (k : run (b E1) = some d) : run (mSeq a b E) = some d := by
  rw [seq_nx E1 h]
  exact k
theorem mat_if {c : En → Option Bool} {a b r : En → Option Out} {E : En} {d : D} (E1 : En) (k : Bool) (h : c E = some k) (h1 : k = true → a E = some (.nx E1)) (h2 : k = false → b E = some (.nx E1)) (g : run (r E1) = some d) : run (mSeq (mIfS c a b) r E) = some d := by
  refine mat_nx E1 ?_ g
  show (c E).bind _ = _
  rw [h]
  cases k with
  | true => exact h1 rfl
  | false => exact h2 rfl
theorem mat_for {mi : En → Option (List D)} {mg : En → D → Option En} {mb r : En → Option Out} {E : En} {d : D} (ds : List D) (E1 : En) (h : mi E = some ds) (h1 : runFor mg mb ds E = some (.nx E1)) (g : run (r E1) = some d) : run (mSeq (mFor mi mg mb) r E) = some d := by
  refine mat_nx E1 ?_ g
  show (mi E).bind _ = _
  rw [h]
  exact h1
theorem Paired.fn {α β : Type} {f : α → β} : ∀ {xs : List α} {ys : List β}, Paired (fun a b => b = f a) xs ys → ys = xs.map f
  | _, _, .nil => rfl
  | _, _, .cons h t => by rw [h, Paired.fn t]; rfl
theorem rep_one {α : Type} (n : Nat) (x : α) : (List.replicate n [x]).flatten = List.replicate n x := by
  induction n with
  | zero => rfl
  | succ n ih => rw [List.replicate_succ, List.flatten_cons, ih]; rfl
end Sx

set_option linter.all false
namespace Sx
inductive Wd where
  | y | n | o
deriving DecidableEq

/-- the spans: at place i, the open one cur -/
def SP (g : Int) : Int → Option (Int × Int) → List Bool → List (Int × Int)
  | _, none, [] => []
  | _, some c, [] => [c]
  | i, cur, false :: bs => SP g (i + 1) cur bs
  | i, none, true :: bs => SP g (i + 1) (some (i, i)) bs
  | i, some (f, l), true :: bs => if i - l - 1 ≤ g then SP g (i + 1) (some (f, i)) bs else (f, l) :: SP g (i + 1) (some (i, i)) bs
/-- how many spans begin from here on, d falses behind the newest true -/
def cnt (g : Int) : Int → List Bool → Int
  | _, [] => 0
  | d, false :: bs => cnt g (d + 1) bs
  | d, true :: bs => (if g < d then 1 else 0) + cnt g 0 bs
theorem SP_lenS (g : Int) : ∀ (bs : List Bool) (i f l : Int), ((SP g i (some (f, l)) bs).length : Int) = 1 + cnt g (i - l - 1) bs
  | [], i, f, l => by simp [SP, cnt]
  | false :: bs, i, f, l => by
    rw [SP, cnt, SP_lenS g bs (i + 1) f l]
    have e : i + 1 - l - 1 = i - l - 1 + 1 := by omega
    rw [e]
  | true :: bs, i, f, l => by
    rw [SP, cnt]
    have e : i + 1 - i - 1 = 0 := by omega
    by_cases h : i - l - 1 ≤ g
    · rw [if_pos h, if_neg (by omega), SP_lenS g bs (i + 1) f i, e]
      omega
    · rw [if_neg h, if_pos (by omega), List.length_cons]
      have := SP_lenS g bs (i + 1) i i
      rw [e] at this
      omega
theorem SP_lenN (g : Int) : ∀ (bs : List Bool) (i d : Int), g < d → ((SP g i none bs).length : Int) = cnt g d bs
  | [], i, d, _ => by simp [SP, cnt]
  | false :: bs, i, d, h => by
    rw [SP, cnt]
    exact SP_lenN g bs (i + 1) (d + 1) (by omega)
  | true :: bs, i, d, h => by
    rw [SP, cnt, if_pos h, SP_lenS]
    have e : i + 1 - i - 1 = 0 := by omega
    rw [e]
theorem cnt_far (g : Int) : ∀ (bs : List Bool) (d e : Int), g < d → g < e → cnt g d bs = cnt g e bs := fun bs d e h1 h2 => by
  rw [← SP_lenN g bs 0 d h1, ← SP_lenN g bs 0 e h2]

/-! ### settlements -/
def okB : Wd → Bool → Bool
  | .y, b => b
  | .n, b => !b
  | .o, _ => true
def Stl : List Wd → List Bool → Prop
  | [], [] => True
  | w :: ws, b :: bs => okB w b = true ∧ Stl ws bs
  | _, _ => False
theorem Stl.len : ∀ {ws : List Wd} {bs : List Bool}, Stl ws bs → ws.length = bs.length
  | [], [], _ => rfl
  | w :: ws, b :: bs, h => congrArg Nat.succ (Stl.len h.2)
def loB (w : Wd) : Bool := decide (w = .y)
def hiB (w : Wd) : Bool := decide (w ≠ .n)
theorem stl_lo : ∀ ws : List Wd, Stl ws (ws.map loB)
  | [] => trivial
  | w :: ws => ⟨by cases w <;> rfl, stl_lo ws⟩
theorem stl_hi : ∀ ws : List Wd, Stl ws (ws.map hiB)
  | [] => trivial
  | w :: ws => ⟨by cases w <;> rfl, stl_hi ws⟩
/-- the least number of spans: y: the newest possible span has a yes -/
def LW (g : Int) : Int → Bool → List Wd → Int
  | _, _, [] => 0
  | d, y, .n :: ws => LW g (d + 1) y ws
  | d, y, .y :: ws => (if g < d ∨ y = false then 1 else 0) + LW g 0 true ws
  | d, y, .o :: ws => LW g 0 (if g < d then false else y) ws
theorem LW_le (g : Int) : ∀ (ws : List Wd) (bs : List Bool) (d e : Int) (y z : Bool), Stl ws bs → 0 ≤ d → d ≤ e → (z = false → g < e) → LW g d y ws ≤ cnt g e bs + (if z = true ∧ y = false then 1 else 0)
  | [], [], d, e, y, z, _, _, _, _ => by
    rw [LW, cnt]
    split <;> omega
  | .n :: ws, b :: bs, d, e, y, z, hs, h0, h1, h2 => by
    have hb : b = false := by have := hs.1; simpa [okB] using this
    subst hb
    rw [LW, cnt]
    exact LW_le g ws bs (d + 1) (e + 1) y z hs.2 (by omega) (by omega) (fun h => by have := h2 h; omega)
  | .y :: ws, b :: bs, d, e, y, z, hs, h0, h1, h2 => by
    have hb : b = true := by have := hs.1; simpa [okB] using this
    subst hb
    rw [LW, cnt]
    have ih := LW_le g ws bs 0 0 true true hs.2 (by omega) (by omega) (fun h => by cases h)
    rw [if_neg (by simp)] at ih
    cases y <;> cases z <;> simp at h2 ⊢ <;> split <;> (try split) <;> omega
  | .o :: ws, b :: bs, d, e, y, z, hs, h0, h1, h2 => by
    rw [LW]
    cases b with
    | false =>
      rw [cnt]
      by_cases h : g < d
      · rw [if_pos h]
        have ih := LW_le g ws bs 0 (e + 1) false false hs.2 (by omega) (by omega) (fun _ => by omega)
        rw [if_neg (by simp)] at ih
        split <;> omega
      · rw [if_neg h]
        exact LW_le g ws bs 0 (e + 1) y z hs.2 (by omega) (by omega) (fun h => by have := h2 h; omega)
    | true =>
      rw [cnt]
      by_cases h : g < d
      · rw [if_pos h]
        have ih := LW_le g ws bs 0 0 false true hs.2 (by omega) (by omega) (fun h => by cases h)
        rw [if_pos (by simp)] at ih
        rw [if_pos (by omega)]
        split <;> omega
      · rw [if_neg h]
        have ih := LW_le g ws bs 0 0 y true hs.2 (by omega) (by omega) (fun h => by cases h)
        cases y <;> cases z <;> simp at h2 ih ⊢ <;> split <;> (try split) <;> omega

theorem LW_at (g : Int) : ∀ (ws : List Wd) (d : Int), (∃ bs, Stl ws bs ∧ cnt g d bs ≤ LW g d true ws) ∧
    ∃ (bs : List Bool) (z : Bool), Stl ws bs ∧ ∀ e, g < e → (if z = true then cnt g d bs + 1 else cnt g e bs) ≤ LW g d false ws
  | [], d => ⟨⟨[], trivial, by rw [cnt, LW]; omega⟩, [], false, trivial, fun e _ => by rw [if_neg (by simp), cnt, LW]; omega⟩
  | .n :: ws, d => by
    obtain ⟨⟨bs, h1, h2⟩, cs, z, h3, h4⟩ := LW_at g ws (d + 1)
    refine ⟨⟨false :: bs, ⟨rfl, h1⟩, by rw [cnt, LW]; exact h2⟩, false :: cs, z, ⟨rfl, h3⟩, fun e he => ?_⟩
    rw [LW, cnt, cnt]
    exact h4 (e + 1) (by omega)
  | .y :: ws, d => by
    obtain ⟨⟨bs, h1, h2⟩, _⟩ := LW_at g ws 0
    refine ⟨⟨true :: bs, ⟨rfl, h1⟩, ?_⟩, true :: bs, false, ⟨rfl, h1⟩, fun e he => ?_⟩
    · rw [cnt, LW]
      by_cases h : g < d
      · rw [if_pos h, if_pos (.inl h)]
        omega
      · rw [if_neg h]
        split <;> omega
    · rw [if_neg (by simp), cnt, LW, if_pos he, if_pos (.inr rfl)]
      omega
  | .o :: ws, d => by
    obtain ⟨⟨bs, h1, h2⟩, cs, z, h3, h4⟩ := LW_at g ws 0
    have h5 : ∀ e, g < e → cnt g e (z :: cs) ≤ LW g 0 false ws := fun e he => by
      have := h4 (e + 1) (by omega)
      cases z with
      | true =>
        rw [cnt, if_pos he]
        rw [if_pos rfl] at this
        omega
      | false =>
        rw [cnt]
        rw [if_neg (by simp)] at this
        exact this
    refine ⟨?_, ?_⟩
    · by_cases h : g < d
      · refine ⟨z :: cs, ⟨rfl, h3⟩, ?_⟩
        rw [LW, if_pos h]
        exact h5 d h
      · refine ⟨true :: bs, ⟨rfl, h1⟩, ?_⟩
        rw [cnt, LW, if_neg h, if_neg h]
        omega
    · by_cases h : g < d
      · refine ⟨z :: cs, false, ⟨rfl, h3⟩, fun e he => ?_⟩
        rw [if_neg (by simp), LW, if_pos h]
        exact h5 e he
      · cases z with
        | true =>
          refine ⟨true :: cs, true, ⟨rfl, h3⟩, fun e he => ?_⟩
          rw [if_pos rfl, cnt, LW, if_neg h, if_neg h]
          have := h4 e he
          rw [if_pos rfl] at this
          omega
        | false =>
          refine ⟨false :: cs, false, ⟨rfl, h3⟩, fun e he => ?_⟩
          rw [if_neg (by simp), cnt, LW, if_neg h]
          have := h4 (e + 1) (by omega)
          rw [if_neg (by simp)] at this
          exact this
/-- the greatest number of spans, by firing as soon as a new one begins -/
def MW (g : Int) : Int → List Wd → Int
  | _, [] => 0
  | e, .n :: ws => MW g (e + 1) ws
  | e, .y :: ws => (if g < e then 1 else 0) + MW g 0 ws
  | e, .o :: ws => if g < e then 1 + MW g 0 ws else MW g (e + 1) ws
theorem MW_le (g : Int) : ∀ (ws : List Wd) (bs : List Bool) (e d : Int), Stl ws bs → 0 ≤ e → 0 ≤ d → cnt g d bs ≤ MW g e ws + (if e < d then 1 else 0)
  | [], [], e, d, _, _, _ => by
    rw [MW, cnt]
    split <;> omega
  | .n :: ws, b :: bs, e, d, hs, h0, h1 => by
    have hb : b = false := by have := hs.1; simpa [okB] using this
    subst hb
    rw [MW, cnt]
    have := MW_le g ws bs (e + 1) (d + 1) hs.2 (by omega) (by omega)
    split at this <;> split <;> omega
  | .y :: ws, b :: bs, e, d, hs, h0, h1 => by
    have hb : b = true := by have := hs.1; simpa [okB] using this
    subst hb
    rw [MW, cnt]
    have := MW_le g ws bs 0 0 hs.2 (by omega) (by omega)
    rw [if_neg (by omega)] at this
    split <;> split <;> split <;> omega
  | .o :: ws, b :: bs, e, d, hs, h0, h1 => by
    rw [MW]
    cases b with
    | false =>
      rw [cnt]
      by_cases h : g < e
      · rw [if_pos h]
        have := MW_le g ws bs 0 (d + 1) hs.2 (by omega) (by omega)
        split at this <;> split <;> omega
      · rw [if_neg h]
        have := MW_le g ws bs (e + 1) (d + 1) hs.2 (by omega) (by omega)
        split at this <;> split <;> omega
    | true =>
      rw [cnt]
      by_cases h : g < e
      · rw [if_pos h]
        have := MW_le g ws bs 0 0 hs.2 (by omega) (by omega)
        rw [if_neg (by omega)] at this
        split <;> split <;> omega
      · rw [if_neg h]
        have := MW_le g ws bs (e + 1) 0 hs.2 (by omega) (by omega)
        rw [if_neg (by omega)] at this
        split <;> split <;> omega
theorem MW_at (g : Int) : ∀ (ws : List Wd) (e : Int), ∃ bs, Stl ws bs ∧ cnt g e bs = MW g e ws
  | [], e => ⟨[], trivial, rfl⟩
  | .n :: ws, e => by
    obtain ⟨bs, h1, h2⟩ := MW_at g ws (e + 1)
    exact ⟨false :: bs, ⟨rfl, h1⟩, by rw [cnt, MW, h2]⟩
  | .y :: ws, e => by
    obtain ⟨bs, h1, h2⟩ := MW_at g ws 0
    exact ⟨true :: bs, ⟨rfl, h1⟩, by rw [cnt, MW, h2]⟩
  | .o :: ws, e => by
    rw [MW]
    by_cases h : g < e
    · obtain ⟨bs, h1, h2⟩ := MW_at g ws 0
      exact ⟨true :: bs, ⟨rfl, h1⟩, by rw [cnt, if_pos h, if_pos h, h2]⟩
    · obtain ⟨bs, h1, h2⟩ := MW_at g ws (e + 1)
      exact ⟨false :: bs, ⟨rfl, h1⟩, by rw [cnt, if_neg h, h2]⟩
/-- both together: the numbers over all settlements -/
theorem LW_min (g : Int) (ws : List Wd) (d : Int) (hg : g < d) (h0 : 0 ≤ d) : (∀ bs, Stl ws bs → LW g d false ws ≤ cnt g d bs) ∧ ∃ bs, Stl ws bs ∧ cnt g d bs = LW g d false ws := by
  have le : ∀ bs, Stl ws bs → LW g d false ws ≤ cnt g d bs := fun bs h => by
    have := LW_le g ws bs d d false false h h0 (Int.le_refl _) (fun _ => hg)
    rwa [if_neg (by simp), Int.add_zero] at this
  refine ⟨le, ?_⟩
  obtain ⟨_, bs, z, h1, h2⟩ := LW_at g ws d
  refine ⟨bs, h1, ?_⟩
  have h3 := le bs h1
  have h4 := h2 d hg
  split at h4 <;> omega
theorem MW_max (g : Int) (ws : List Wd) (d : Int) (h0 : 0 ≤ d) : (∀ bs, Stl ws bs → cnt g d bs ≤ MW g d ws) ∧ ∃ bs, Stl ws bs ∧ cnt g d bs = MW g d ws :=
  ⟨fun bs h => by
    have := MW_le g ws bs d d h h0 h0
    rwa [if_neg (by omega), Int.add_zero] at this, MW_at g ws d⟩
end Sx

set_option linter.all false
namespace Sx
/-! ### spans with a yes -/
def hasY (ws : List Wd) (f l : Int) : Prop := ∃ k : Nat, f ≤ k ∧ (k : Int) ≤ l ∧ ws[k]? = some .y
open Classical in
noncomputable def cntY (ws : List Wd) : List (Int × Int) → Int
  | [] => 0
  | (f, l) :: ps => (if hasY ws f l then 1 else 0) + cntY ws ps
open Classical in
/-- the rest of the list from place i on -/
theorem cntY_S (g : Int) (ws : List Wd) : ∀ (r : List Wd) (i : Nat) (f l : Int), ws.drop i = r → 0 ≤ f → f ≤ l → l < i → (∀ k : Nat, l < k → k < i → ws[k]? = some .n) →
    cntY ws (SP g i (some (f, l)) (r.map hiB)) = (if hasY ws f l then 1 else 0) + LW g ((i : Int) - l - 1) (decide (hasY ws f l)) r
  | [], i, f, l, hr, h0, h1, h2, h3 => by
    simp [SP, cntY, LW]
  | w :: r, i, f, l, hr, h0, h1, h2, h3 => by
    have hw : ws[i]? = some w := by
      have := List.getElem?_drop (xs := ws) (i := i) (j := 0)
      rw [hr] at this
      simpa using this.symm
    have hr' : ws.drop (i + 1) = r := by
      rw [← List.drop_drop, hr]
      rfl
    have c1 : ((i + 1 : Nat) : Int) = (i : Int) + 1 := by omega
    have hyi : hasY ws i i ↔ w = .y := by
      constructor
      · rintro ⟨k, a, b, c⟩
        have : k = i := by omega
        subst this
        rw [hw] at c
        exact Option.some.inj c
      · rintro rfl
        exact ⟨i, by omega, by omega, hw⟩
    have hyf : hasY ws f i ↔ (hasY ws f l ∨ w = .y) := by
      constructor
      · rintro ⟨k, a, b, c⟩
        by_cases e : (k : Int) ≤ l
        · exact .inl ⟨k, a, e, c⟩
        · by_cases e2 : k = i
          · subst e2
            rw [hw] at c
            exact .inr (Option.some.inj c)
          · have := h3 k (by omega) (by omega)
            rw [c] at this
            cases this
      · rintro (⟨k, a, b, c⟩ | rfl)
        · exact ⟨k, a, by omega, c⟩
        · exact ⟨i, by omega, by omega, hw⟩
    have new : cntY ws (SP g ((i : Int) + 1) (some ((i : Int), (i : Int))) (r.map hiB)) = (if w = .y then 1 else 0) + LW g 0 (decide (w = .y)) r := by
      have ih := cntY_S g ws r (i + 1) i i hr' (by omega) (by omega) (by omega) (fun k a b => by omega)
      rw [c1] at ih
      rw [ih]
      have e : (i : Int) + 1 - (i : Int) - 1 = 0 := by omega
      rw [e]
      simp only [hyi]
    have ext : cntY ws (SP g ((i : Int) + 1) (some (f, (i : Int))) (r.map hiB)) = (if hasY ws f l ∨ w = .y then 1 else 0) + LW g 0 (decide (hasY ws f l ∨ w = .y)) r := by
      have ih := cntY_S g ws r (i + 1) f i hr' h0 (by omega) (by omega) (fun k a b => by omega)
      rw [c1] at ih
      rw [ih]
      have e : (i : Int) + 1 - (i : Int) - 1 = 0 := by omega
      rw [e]
      simp only [hyf]
    cases w with
    | n =>
      have ih := cntY_S g ws r (i + 1) f l hr' h0 h1 (by omega) (fun k a b => by
        by_cases e : k = i
        · subst e
          exact hw
        · exact h3 k a (by omega))
      rw [c1] at ih
      have e : (i : Int) + 1 - l - 1 = (i : Int) - l - 1 + 1 := by omega
      rw [e] at ih
      simp only [List.map_cons]
      rw [LW]
      exact ih
    | y =>
      simp only [List.map_cons]
      show cntY ws (SP g (↑i) (some (f, l)) (true :: r.map hiB)) = _
      rw [SP, LW]
      by_cases h : (i : Int) - l - 1 ≤ g
      · rw [if_pos h, ext]
        rw [if_pos (Or.inr rfl)]
        by_cases hy : hasY ws f l
        · simp [hy]
          omega
        · simp [hy]
      · rw [if_neg h, cntY, new]
        rw [if_pos (show (Wd.y = Wd.y) from rfl), if_pos (Or.inl (show g < (i : Int) - l - 1 by omega))]
        simp
    | o =>
      simp only [List.map_cons]
      show cntY ws (SP g (↑i) (some (f, l)) (true :: r.map hiB)) = _
      rw [SP, LW]
      by_cases h : (i : Int) - l - 1 ≤ g
      · rw [if_pos h, ext, if_neg (show ¬ g < (i : Int) - l - 1 by omega)]
        simp
      · rw [if_neg h, cntY, new, if_pos (show g < (i : Int) - l - 1 by omega)]
        simp
theorem cntY_N (g : Int) (ws : List Wd) : ∀ (r : List Wd) (i : Nat) (d : Int), ws.drop i = r → g < d → cntY ws (SP g i none (r.map hiB)) = LW g d false r
  | [], i, d, _, _ => by simp [SP, cntY, LW]
  | w :: r, i, d, hr, hd => by
    have hw : ws[i]? = some w := by
      have := List.getElem?_drop (xs := ws) (i := i) (j := 0)
      rw [hr] at this
      simpa using this.symm
    have hr' : ws.drop (i + 1) = r := by
      rw [← List.drop_drop, hr]
      rfl
    have c1 : ((i + 1 : Nat) : Int) = (i : Int) + 1 := by omega
    have hyi : hasY ws i i ↔ w = .y := by
      constructor
      · rintro ⟨k, a, b, c⟩
        have : k = i := by omega
        subst this
        rw [hw] at c
        exact Option.some.inj c
      · rintro rfl
        exact ⟨i, by omega, by omega, hw⟩
    have new := cntY_S g ws r (i + 1) i i hr' (by omega) (by omega) (by omega) (fun k a b => by omega)
    rw [c1] at new
    have e : (i : Int) + 1 - (i : Int) - 1 = 0 := by omega
    rw [e] at new
    simp only [hyi] at new
    cases w with
    | n =>
      have ih := cntY_N g ws r (i + 1) (d + 1) hr' (by omega)
      rw [c1] at ih
      simp only [List.map_cons]
      rw [LW]
      exact ih
    | y =>
      simp only [List.map_cons]
      show cntY ws (SP g (↑i) none (true :: r.map hiB)) = _
      rw [SP, LW, new, if_pos (Or.inl hd)]
      simp
    | o =>
      simp only [List.map_cons]
      show cntY ws (SP g (↑i) none (true :: r.map hiB)) = _
      rw [SP, LW, new, if_pos hd]
      simp

/-! ### marks -/
def MK (g : Int) : Int → Int → List Bool → List Int
  | _, _, [] => []
  | n, d, false :: bs => -1 :: MK g n (d + 1) bs
  | n, d, true :: bs => (if g < d then n + 1 else n) :: MK g (if g < d then n + 1 else n) 0 bs
theorem MK_len (g : Int) : ∀ (bs : List Bool) (n d : Int), (MK g n d bs).length = bs.length
  | [], _, _ => rfl
  | false :: bs, n, d => congrArg Nat.succ (MK_len g bs n (d + 1))
  | true :: bs, n, d => congrArg Nat.succ (MK_len g bs _ 0)
/-- no run of more than g falses, d of them stand already -/
def CO (g : Int) : Int → List Bool → Bool
  | _, [] => true
  | d, false :: bs => decide (d + 1 ≤ g) && CO g (d + 1) bs
  | _, true :: bs => CO g 0 bs
theorem MK_ge (g : Int) : ∀ (bs : List Bool) (n d : Int) (k : Nat) (m : Int), (MK g n d bs)[k]? = some m → bs[k]? = some true → n ≤ m ∧ (g < d → n < m)
  | false :: bs, n, d, 0, m, h, hb => by simp at hb
  | false :: bs, n, d, k + 1, m, h, hb => by
    have := MK_ge g bs n (d + 1) k m (by simpa [MK] using h) (by simpa using hb)
    exact ⟨this.1, fun h => this.2 (by omega)⟩
  | true :: bs, n, d, 0, m, h, hb => by
    simp [MK] at h
    split at h <;> omega
  | true :: bs, n, d, k + 1, m, h, hb => by
    have := MK_ge g bs _ 0 k m (by simpa [MK] using h) (by simpa using hb)
    split at this <;> omega
  | [], _, _, _, _, h, hb => by simp at hb
theorem MK_false (g : Int) : ∀ (bs : List Bool) (n d : Int) (k : Nat), bs[k]? = some false → (MK g n d bs)[k]? = some (-1)
  | false :: bs, n, d, 0, _ => by simp [MK]
  | false :: bs, n, d, k + 1, h => by
    have := MK_false g bs n (d + 1) k (by simpa using h)
    simpa [MK] using this
  | true :: bs, n, d, 0, h => by simp at h
  | true :: bs, n, d, k + 1, h => by
    have := MK_false g bs (if g < d then n + 1 else n) 0 k (by simpa using h)
    simpa [MK] using this
  | [], _, _, _, h => by simp at h
theorem MK_same (g : Int) : ∀ (bs : List Bool) (n d : Int) (k : Nat) (m : Int), 0 ≤ g → d ≤ g → (MK g n d bs)[k]? = some m → bs[k]? = some true → (m = n ↔ CO g d (bs.take (k + 1)) = true)
  | false :: bs, n, d, 0, m, hg, hd, h, hb => by simp at hb
  | false :: bs, n, d, k + 1, m, hg, hd, h, hb => by
    have h' : (MK g n (d + 1) bs)[k]? = some m := by simpa [MK] using h
    have hb' : bs[k]? = some true := by simpa using hb
    rw [List.take_succ_cons, CO]
    by_cases e : d + 1 ≤ g
    · rw [MK_same g bs n (d + 1) k m hg e h' hb']
      simp [e]
    · have := (MK_ge g bs n (d + 1) k m h' hb').2 (by omega)
      simp [e]
      omega
  | true :: bs, n, d, 0, m, hg, hd, h, hb => by
    simp [MK] at h
    rw [if_neg (by omega)] at h
    simp [CO, h]
  | true :: bs, n, d, k + 1, m, hg, hd, h, hb => by
    have h' : (MK g n 0 bs)[k]? = some m := by
      have : (MK g (if g < d then n + 1 else n) 0 bs)[k]? = some m := by simpa [MK] using h
      rwa [if_neg (by omega)] at this
    have hb' : bs[k]? = some true := by simpa using hb
    rw [List.take_succ_cons, CO]
    exact MK_same g bs n 0 k m hg hg h' hb'
  | [], _, _, _, _, _, _, h, hb => by simp at hb
/-! ### within a span -/
theorem SP_N (g : Int) : ∀ (bs : List Bool) (i : Int) (cur : Option (Int × Int)) (p : Int × Int), p ∈ SP g i cur bs → i ≤ p.1 ∨ ∃ c, cur = some c ∧ p.1 = c.1
  | [], i, none, p, h => by simp [SP] at h
  | [], i, some c, p, h => by
    simp [SP] at h
    exact .inr ⟨c, rfl, by rw [h]⟩
  | false :: bs, i, cur, p, h => by
    cases cur <;> (rw [SP] at h; rcases SP_N g bs (i + 1) _ p h with h | h; exact .inl (by omega); exact .inr h)
  | true :: bs, i, none, p, h => by
    rw [SP] at h
    rcases SP_N g bs (i + 1) _ p h with h | ⟨c, e, h⟩
    · exact .inl (by omega)
    · cases e
      exact .inl (by simp at h; omega)
  | true :: bs, i, some (f, l), p, h => by
    rw [SP] at h
    split at h
    · rcases SP_N g bs (i + 1) _ p h with h | ⟨c, e, h⟩
      · exact .inl (by omega)
      · cases e
        exact .inr ⟨_, rfl, h⟩
    · rcases List.mem_cons.mp h with rfl | h
      · exact .inr ⟨_, rfl, rfl⟩
      · rcases SP_N g bs (i + 1) _ p h with h | ⟨c, e, h⟩
        · exact .inl (by omega)
        · cases e
          exact .inl (by simp at h; omega)
theorem SP_S (g : Int) : ∀ (bs : List Bool) (i f l : Int), l < i → ∃ e, (f, e) ∈ SP g i (some (f, l)) bs ∧ l ≤ e
  | [], i, f, l, _ => ⟨l, by simp [SP], Int.le_refl _⟩
  | false :: bs, i, f, l, h => by
    rw [SP]
    exact SP_S g bs (i + 1) f l (by omega)
  | true :: bs, i, f, l, h => by
    rw [SP]
    split
    · obtain ⟨e, h1, h2⟩ := SP_S g bs (i + 1) f i (by omega)
      exact ⟨e, h1, by omega⟩
    · exact ⟨l, List.mem_cons_self .., Int.le_refl _⟩
theorem SP_far (g : Int) : ∀ (bs : List Bool) (i f l : Int) (p : Int × Int), g < i - l - 1 → p ∈ SP g i (some (f, l)) bs → p.2 = l ∨ i ≤ p.1
  | [], i, f, l, p, _, h => by
    simp [SP] at h
    exact .inl (by rw [h])
  | false :: bs, i, f, l, p, hg, h => by
    rw [SP] at h
    rcases SP_far g bs (i + 1) f l p (by omega) h with h | h
    · exact .inl h
    · exact .inr (by omega)
  | true :: bs, i, f, l, p, hg, h => by
    rw [SP, if_neg (by omega)] at h
    rcases List.mem_cons.mp h with rfl | h
    · exact .inl rfl
    · rcases SP_N g bs (i + 1) _ p h with h | ⟨c, e, h⟩
      · exact .inr (by omega)
      · cases e
        exact .inr (by simp at h; omega)
theorem in2 (g : Int) : ∀ (bs : List Bool) (i f l s : Int) (k : Nat), 0 ≤ g → f ≤ s → s ≤ l → l < i → i - l - 1 ≤ g → bs[k]? = some true →
    ((∃ p ∈ SP g i (some (f, l)) bs, p.1 ≤ s ∧ i + k ≤ p.2) ↔ CO g (i - l - 1) (bs.take (k + 1)) = true)
  | false :: bs, i, f, l, s, 0, _, _, _, _, _, hb => by simp at hb
  | false :: bs, i, f, l, s, k + 1, hg, h1, h2, h3, h4, hb => by
    have hb' : bs[k]? = some true := by simpa using hb
    rw [List.take_succ_cons, CO, SP]
    have e : i + 1 - l - 1 = i - l - 1 + 1 := by omega
    have c : i + ((k + 1 : Nat) : Int) = i + 1 + (k : Int) := by omega
    rw [c]
    by_cases hd : i - l - 1 + 1 ≤ g
    · rw [in2 g bs (i + 1) f l s k hg h1 h2 (by omega) (by omega) hb', e, decide_eq_true hd, Bool.true_and]
    · constructor
      · rintro ⟨p, a, b, c⟩
        exfalso
        rcases SP_far g bs (i + 1) f l p (by omega) a with h | h <;> omega
      · rw [decide_eq_false hd, Bool.false_and]
        exact fun h => (Bool.false_ne_true h).elim
  | true :: bs, i, f, l, s, 0, hg, h1, h2, h3, h4, hb => by
    rw [SP, if_pos h4]
    obtain ⟨e, a, b⟩ := SP_S g bs (i + 1) f i (by omega)
    simp only [List.take_succ_cons, List.take_zero, CO, iff_true]
    exact ⟨(f, e), a, h1, by simpa using b⟩
  | true :: bs, i, f, l, s, k + 1, hg, h1, h2, h3, h4, hb => by
    have hb' : bs[k]? = some true := by simpa using hb
    rw [List.take_succ_cons, CO, SP, if_pos h4]
    have c : i + ((k + 1 : Nat) : Int) = i + 1 + (k : Int) := by omega
    rw [c, in2 g bs (i + 1) f i s k hg h1 (by omega) (by omega) (by omega) hb']
    have e : i + 1 - i - 1 = 0 := by omega
    rw [e]
  | [], _, _, _, _, _, _, _, _, _, _, hb => by simp at hb
theorem in1 (g : Int) : ∀ (bs : List Bool) (i : Int) (cur : Option (Int × Int)) (j k : Nat), 0 ≤ g → (∀ c, cur = some c → c.1 ≤ c.2 ∧ c.2 < i) → bs[j]? = some true → bs[j + k]? = some true →
    ((∃ p ∈ SP g i cur bs, p.1 ≤ i + j ∧ i + j + k ≤ p.2) ↔ CO g 0 ((bs.drop (j + 1)).take k) = true)
  | false :: bs, i, cur, 0, k, _, _, hb, _ => by simp at hb
  | b :: bs, i, cur, j + 1, k, hg, hc, hb, hk => by
    have hb' : bs[j]? = some true := by simpa using hb
    have hk' : bs[j + k]? = some true := by
      have e : j + 1 + k = j + k + 1 := by omega
      rw [e] at hk
      simpa using hk
    have c1 : i + ((j + 1 : Nat) : Int) = i + 1 + (j : Int) := by omega
    rw [c1, List.drop_succ_cons]
    cases b with
    | false =>
      have e : SP g i cur (false :: bs) = SP g (i + 1) cur bs := by cases cur <;> rw [SP]
      rw [e]
      exact in1 g bs (i + 1) cur j k hg (fun c h => by have := hc c h; omega) hb' hk'
    | true =>
      match cur with
      | none =>
        rw [SP]
        exact in1 g bs (i + 1) (some (i, i)) j k hg (fun c h => by cases h; simp; omega) hb' hk'
      | some (f, l) =>
        have hl := hc _ rfl
        simp at hl
        rw [SP]
        split
        · exact in1 g bs (i + 1) (some (f, i)) j k hg (fun c h => by cases h; simp; omega) hb' hk'
        · rw [← in1 g bs (i + 1) (some (i, i)) j k hg (fun c h => by cases h; simp; omega) hb' hk']
          constructor
          · rintro ⟨p, a, b⟩
            rcases List.mem_cons.mp a with rfl | a
            · simp at b
              omega
            · exact ⟨p, a, b⟩
          · rintro ⟨p, a, b⟩
            exact ⟨p, List.mem_cons_of_mem _ a, b⟩
  | true :: bs, i, cur, 0, k, hg, hc, hb, hk => by
    have key : ∀ f, f ≤ i → ((∃ p ∈ SP g (i + 1) (some (f, i)) bs, p.1 ≤ i ∧ i + k ≤ p.2) ↔ CO g 0 (bs.take k) = true) := fun f hf => by
      cases k with
      | zero =>
        obtain ⟨e, a, b⟩ := SP_S g bs (i + 1) f i (by omega)
        simp only [List.take_zero, CO, iff_true]
        exact ⟨(f, e), a, hf, by simpa using b⟩
      | succ k =>
        have hk' : bs[k]? = some true := by
          have e : 0 + (k + 1) = k + 1 := by omega
          rw [e] at hk
          simpa using hk
        have c : i + ((k + 1 : Nat) : Int) = i + 1 + (k : Int) := by omega
        rw [c, in2 g bs (i + 1) f i i k hg hf (Int.le_refl _) (by omega) (by omega) hk']
        have e : i + 1 - i - 1 = 0 := by omega
        rw [e]
    have c0 : i + ((0 : Nat) : Int) = i := by omega
    rw [c0]
    simp only [Nat.zero_add, List.drop_succ_cons, List.drop_zero]
    match cur with
    | none =>
      rw [SP]
      exact key i (Int.le_refl _)
    | some (f, l) =>
      have hl := hc _ rfl
      simp at hl
      rw [SP]
      split
      · exact key f (by omega)
      · rw [← key i (Int.le_refl _)]
        constructor
        · rintro ⟨p, a, b⟩
          rcases List.mem_cons.mp a with rfl | a
          · simp at b
            omega
          · exact ⟨p, a, b⟩
        · rintro ⟨p, a, b⟩
          exact ⟨p, List.mem_cons_of_mem _ a, b⟩
  | [], _, _, _, _, _, _, hb, _ => by simp at hb

/-! ### more fires, fewer gaps -/
theorem CO_lo (g : Int) : ∀ (ws : List Wd) (bs : List Bool) (d e : Int), Stl ws bs → 0 ≤ e → e ≤ d → CO g d (ws.map loB) = true → CO g e bs = true
  | [], [], d, e, _, _, _, _ => rfl
  | w :: ws, b :: bs, d, e, hs, h0, h1, h => by
    rw [List.map_cons] at h
    cases hw : loB w with
    | true =>
      rw [hw, CO] at h
      have hb : b = true := by
        have h2 := hs.1
        cases w with
        | y => simpa [okB] using h2
        | n => simp [loB] at hw
        | o => simp [loB] at hw
      subst hb
      rw [CO]
      exact CO_lo g ws bs 0 0 hs.2 (by omega) (by omega) h
    | false =>
      rw [hw, CO] at h
      simp at h
      cases b with
      | true =>
        rw [CO]
        exact CO_lo g ws bs (d + 1) 0 hs.2 (by omega) (by omega) h.2
      | false =>
        rw [CO]
        simp
        exact ⟨by omega, CO_lo g ws bs (d + 1) (e + 1) hs.2 (by omega) (by omega) h.2⟩
theorem CO_hi (g : Int) : ∀ (ws : List Wd) (bs : List Bool) (d e : Int), Stl ws bs → 0 ≤ e → e ≤ d → CO g d bs = true → CO g e (ws.map hiB) = true
  | [], [], d, e, _, _, _, _ => rfl
  | w :: ws, b :: bs, d, e, hs, h0, h1, h => by
    rw [List.map_cons]
    cases hw : hiB w with
    | false =>
      have hb : b = false := by
        have h2 := hs.1
        cases w with
        | n => simpa [okB] using h2
        | y => simp [hiB] at hw
        | o => simp [hiB] at hw
      subst hb
      rw [CO] at h ⊢
      simp at h ⊢
      exact ⟨by omega, CO_hi g ws bs (d + 1) (e + 1) hs.2 (by omega) (by omega) h.2⟩
    | true =>
      rw [CO]
      cases b with
      | true =>
        rw [CO] at h
        exact CO_hi g ws bs 0 0 hs.2 (by omega) (by omega) h
      | false =>
        rw [CO] at h
        simp at h
        exact CO_hi g ws bs (d + 1) 0 hs.2 (by omega) (by omega) h.2
theorem Stl.drop : ∀ {ws : List Wd} {bs : List Bool} (n : Nat), Stl ws bs → Stl (ws.drop n) (bs.drop n)
  | _, _, 0, h => h
  | [], [], _ + 1, h => h
  | w :: ws, b :: bs, n + 1, h => Stl.drop (ws := ws) (bs := bs) n h.2
theorem Stl.take : ∀ {ws : List Wd} {bs : List Bool} (n : Nat), Stl ws bs → Stl (ws.take n) (bs.take n)
  | ws, bs, 0, h => by
    rw [List.take_zero, List.take_zero]
    trivial
  | [], [], _ + 1, h => h
  | w :: ws, b :: bs, n + 1, h => ⟨h.1, Stl.take (ws := ws) (bs := bs) n h.2⟩
theorem Stl.at : ∀ {ws : List Wd} {bs : List Bool} {n : Nat} {w : Wd} {b : Bool}, Stl ws bs → ws[n]? = some w → bs[n]? = some b → okB w b = true
  | w :: ws, b :: bs, 0, w', b', h, e1, e2 => by
    simp at e1 e2
    subst e1 e2
    exact h.1
  | w :: ws, b :: bs, n + 1, w', b', h, e1, e2 => Stl.at (ws := ws) (bs := bs) h.2 (by simpa using e1) (by simpa using e2)
  | [], [], _, _, _, _, e1, _ => by simp at e1
/-- the longest run of falses -/
def LG : Int → Int → List Bool → Int
  | m, _, [] => m
  | m, n, false :: bs => LG (max m (n + 1)) (n + 1) bs
  | m, n, true :: bs => LG (max m 0) 0 bs
theorem LG_le (g : Int) (hg : 0 ≤ g) : ∀ (bs : List Bool) (m n : Int), LG m n bs ≤ g ↔ (m ≤ g ∧ CO g n bs = true)
  | [], m, n => by simp [LG, CO]
  | false :: bs, m, n => by
    rw [LG, LG_le g hg bs, CO, Bool.and_eq_true, decide_eq_true_iff]
    generalize CO g (n + 1) bs = c
    constructor
    · rintro ⟨a, b⟩
      exact ⟨by omega, by omega, b⟩
    · rintro ⟨a, b, c⟩
      exact ⟨by omega, c⟩
  | true :: bs, m, n => by
    rw [LG, LG_le g hg bs, CO]
    simp
    omega
end Sx

set_option linter.all false
namespace Sx
def dst : Int → List Bool → Int
  | d, [] => d
  | d, false :: bs => dst (d + 1) bs
  | _, true :: bs => dst 0 bs
theorem dst_ge : ∀ (bs : List Bool) (d : Int), 0 ≤ d → 0 ≤ dst d bs
  | [], d, h => h
  | false :: bs, d, h => dst_ge bs (d + 1) (by omega)
  | true :: bs, d, h => dst_ge bs 0 (by omega)
theorem dst_snoc : ∀ (bs : List Bool) (d : Int) (b : Bool), dst d (bs ++ [b]) = if b = true then 0 else dst d bs + 1
  | [], d, b => by cases b <;> simp [dst]
  | false :: bs, d, b => by rw [List.cons_append, dst, dst, dst_snoc bs]
  | true :: bs, d, b => by rw [List.cons_append, dst, dst, dst_snoc bs]
theorem cnt_snoc (g : Int) : ∀ (bs : List Bool) (d : Int) (b : Bool), cnt g d (bs ++ [b]) = cnt g d bs + if b = true ∧ g < dst d bs then 1 else 0
  | [], d, b => by cases b <;> simp [dst, cnt]
  | false :: bs, d, b => by rw [List.cons_append, cnt, cnt, dst, cnt_snoc g bs]
  | true :: bs, d, b => by rw [List.cons_append, cnt, cnt, dst, cnt_snoc g bs]; omega
theorem cnt_ge (g : Int) : ∀ (bs : List Bool) (d : Int), 0 ≤ cnt g d bs ∧ cnt g d bs ≤ bs.length
  | [], d => by simp [cnt]
  | false :: bs, d => by
    have := cnt_ge g bs (d + 1)
    rw [cnt, List.length_cons]
    omega
  | true :: bs, d => by
    have := cnt_ge g bs 0
    rw [cnt, List.length_cons]
    split <;> omega
theorem stl_snoc : ∀ {ws : List Wd} {w : Wd} {bs : List Bool}, Stl (ws ++ [w]) bs → ∃ cs b, bs = cs ++ [b] ∧ Stl ws cs ∧ okB w b = true
  | [], w, [b], h => ⟨[], b, rfl, trivial, h.1⟩
  | [], w, [], h => h.elim
  | [], w, _ :: _ :: _, h => h.2.elim
  | v :: ws, w, [], h => h.elim
  | v :: ws, w, c :: bs, h => by
    obtain ⟨cs, b, e, h1, h2⟩ := stl_snoc (ws := ws) (bs := bs) h.2
    exact ⟨c :: cs, b, by rw [e]; rfl, ⟨h.1, h1⟩, h2⟩
theorem snoc_stl : ∀ {ws : List Wd} {w : Wd} {bs : List Bool} {b : Bool}, Stl ws bs → okB w b = true → Stl (ws ++ [w]) (bs ++ [b])
  | [], w, [], b, _, h => ⟨h, trivial⟩
  | v :: ws, w, c :: bs, b, h, h2 => ⟨h.1, snoc_stl (ws := ws) (bs := bs) h.2 h2⟩
def capD (G : Nat) (d : Int) : Nat := if d ≤ G then d.toNat else G + 1
theorem capD_lt (G : Nat) (d : Int) : capD G d < G + 2 := by
  unfold capD
  split <;> omega
structure ILow (G : Nat) (ws : List Wd) (low : List Int) : Prop where
  len : low.length = G + 2
  le : ∀ bs, Stl ws bs → low.getD (capD G (dst (G + 1) bs)) 0 ≤ cnt G (G + 1) bs
  at_ : ∀ k, k < G + 2 → low.getD k 0 < 1000 → ∃ bs, Stl ws bs ∧ capD G (dst (G + 1) bs) = k ∧ cnt G (G + 1) bs = low.getD k 0
  top : ∀ k, k < G + 2 → low.getD k 0 ≤ 1000
theorem ILow.step {G : Nat} {ws : List Wd} {low low2 : List Int} {w : Wd} {f : Int} (h : ILow G ws low) (hf1 : ∃ d, d < G + 2 ∧ f = low.getD d 0 + if d = G + 1 then 1 else 0) (hf2 : ∀ d, d < G + 2 → f ≤ low.getD d 0 + if d = G + 1 then 1 else 0)
    (hl : low2.length = G + 2) (h0 : low2.getD 0 0 = if w = .n then 1000 else f) (hk : ∀ k, k < G → low2.getD (k + 1) 0 = if w = .y then 1000 else low.getD k 0)
    (hG : low2.getD (G + 1) 0 = if w = .y then 1000 else min (low.getD G 0) (low.getD (G + 1) 0)) : ILow G (ws ++ [w]) low2 where
  len := hl
  le := fun bs hs => by
    obtain ⟨cs, b, rfl, h1, h2⟩ := stl_snoc hs
    have hd := dst_ge cs (G + 1) (by omega)
    have ih := h.le cs h1
    rw [dst_snoc, cnt_snoc]
    generalize dst (G + 1) cs = d at *
    generalize cnt G (G + 1) cs = c at *
    cases b with
    | true =>
      rw [if_pos rfl]
      have e : capD G 0 = 0 := by unfold capD; rw [if_pos (by omega)]; rfl
      have hw : w ≠ .n := by rintro rfl; simp [okB] at h2
      rw [e, h0, if_neg hw]
      have := hf2 (capD G d) (capD_lt G d)
      have e2 : (capD G d = G + 1) ↔ (G : Int) < d := by
        unfold capD
        split <;> omega
      simp only [e2] at this
      simp only [true_and]
      omega
    | false =>
      rw [if_neg (by simp), if_neg (by simp)]
      have hw : w ≠ .y := by rintro rfl; simp [okB] at h2
      by_cases e1 : d + 1 ≤ G
      · have e2 : capD G (d + 1) = d.toNat + 1 := by
          unfold capD
          rw [if_pos e1]
          omega
        have e3 : capD G d = d.toNat := by
          unfold capD
          rw [if_pos (by omega)]
        rw [e2, hk _ (by omega), if_neg hw]
        rw [e3] at ih
        omega
      · have e2 : capD G (d + 1) = G + 1 := by
          unfold capD
          rw [if_neg e1]
        rw [e2, hG, if_neg hw]
        by_cases e4 : d ≤ G
        · have e3 : capD G d = G := by
            unfold capD
            rw [if_pos e4]
            omega
          rw [e3] at ih
          omega
        · have e3 : capD G d = G + 1 := by
            unfold capD
            rw [if_neg e4]
          rw [e3] at ih
          omega
  at_ := fun k hk1 hk2 => by
    have mk : ∀ j, j < G + 2 → low.getD j 0 < 1000 → w ≠ .y → capD G ((j : Int) + 1) = k → ∃ bs, Stl (ws ++ [w]) bs ∧ capD G (dst (G + 1) bs) = k ∧ cnt G (G + 1) bs = low.getD j 0 := fun j j1 j2 hw hj => by
      obtain ⟨cs, a, b, c⟩ := h.at_ j j1 j2
      refine ⟨cs ++ [false], snoc_stl a (by cases w <;> simp [okB] at hw ⊢), ?_, ?_⟩
      · rw [dst_snoc, if_neg (by simp)]
        rw [← hj]
        have hd := dst_ge cs (G + 1) (by omega)
        generalize dst (G + 1) cs = d at *
        unfold capD at b ⊢
        split at b <;> split <;> split <;> omega
      · rw [cnt_snoc, if_neg (by simp), c]
        omega
    by_cases e0 : k = 0
    · subst e0
      rw [h0] at hk2 ⊢
      by_cases hw : w = .n
      · rw [if_pos hw] at hk2
        omega
      · rw [if_neg hw] at hk2 ⊢
        obtain ⟨d, d1, d2⟩ := hf1
        obtain ⟨cs, a, b, c⟩ := h.at_ d d1 (by split at d2 <;> omega)
        refine ⟨cs ++ [true], snoc_stl a (by cases w <;> simp [okB] at hw ⊢), ?_, ?_⟩
        · rw [dst_snoc, if_pos rfl]
          unfold capD
          rw [if_pos (by omega)]
          rfl
        · rw [cnt_snoc, c, d2]
          have e2 : (d = G + 1) ↔ (G : Int) < dst (G + 1) cs := by
            rw [← b]
            unfold capD
            have hd := dst_ge cs (G + 1) (by omega)
            split <;> omega
          simp only [e2, true_and]
    · by_cases e1 : k = G + 1
      · subst e1
        rw [hG] at hk2 ⊢
        by_cases hw : w = .y
        · rw [if_pos hw] at hk2
          omega
        · rw [if_neg hw] at hk2 ⊢
          by_cases e2 : low.getD G 0 ≤ low.getD (G + 1) 0
          · rw [Int.min_eq_left e2] at hk2 ⊢
            exact mk G (by omega) hk2 hw (by unfold capD; rw [if_neg (by omega)])
          · rw [Int.min_eq_right (by omega)] at hk2 ⊢
            exact mk (G + 1) (by omega) hk2 hw (by unfold capD; rw [if_neg (by omega)])
      · obtain ⟨j, rfl⟩ : ∃ j, k = j + 1 := ⟨k - 1, by omega⟩
        rw [hk j (by omega)] at hk2 ⊢
        by_cases hw : w = .y
        · rw [if_pos hw] at hk2
          omega
        · rw [if_neg hw] at hk2 ⊢
          exact mk j (by omega) hk2 hw (by unfold capD; rw [if_pos (by omega)]; omega)
  top := fun k hk1 => by
    by_cases e0 : k = 0
    · subst e0
      rw [h0]
      have a := hf2 0 (by omega)
      have b := h.top 0 (by omega)
      rw [if_neg (by omega)] at a
      split <;> omega
    · by_cases e1 : k = G + 1
      · subst e1
        rw [hG]
        have b := h.top (G + 1) (by omega)
        split <;> omega
      · obtain ⟨j, rfl⟩ : ∃ j, k = j + 1 := ⟨k - 1, by omega⟩
        rw [hk j (by omega)]
        have b := h.top j (by omega)
        split <;> omega
theorem ILow.start (G : Nat) {low : List Int} (hl : low.length = G + 2) (h0 : ∀ k, k < G + 1 → low.getD k 0 = 1000) (h1 : low.getD (G + 1) 0 = 0) : ILow G [] low where
  len := hl
  le := fun bs hs => by
    cases bs with
    | nil =>
      have e : capD G (dst (G + 1) []) = G + 1 := by unfold capD; rw [dst, if_neg (by omega)]
      rw [e, h1, cnt]
      exact Int.le_refl _
    | cons _ _ => exact hs.elim
  at_ := fun k hk1 hk2 => by
    by_cases e : k = G + 1
    · subst e
      refine ⟨[], trivial, ?_, ?_⟩
      · unfold capD
        rw [dst, if_neg (by omega)]
      · rw [h1, cnt]
    · rw [h0 k (by omega)] at hk2
      omega
  top := fun k hk1 => by
    by_cases e : k = G + 1
    · subst e
      omega
    · rw [h0 k (by omega)]
      omega
theorem ILow.fin {G : Nat} {ws : List Wd} {low : List Int} {m : Int} (h : ILow G ws low) (hn : ws.length < 1000) (h1 : ∃ k, k < G + 2 ∧ m = low.getD k 0) (h2 : ∀ k, k < G + 2 → m ≤ low.getD k 0) : m = LW G (G + 1) false ws := by
  obtain ⟨a, cs, b, c⟩ := LW_min G ws (G + 1) (by omega) (by omega)
  have d := h.le cs b
  have e := h2 _ (capD_lt G (dst (G + 1) cs))
  have f := cnt_ge G cs (G + 1)
  have l := b.len
  obtain ⟨k, k1, k2⟩ := h1
  obtain ⟨bs, p, q, r⟩ := h.at_ k k1 (by omega)
  have := a bs p
  omega
structure ITop (G : Nat) (ws : List Wd) (low : List Int) : Prop where
  len : low.length = G + 2
  le : ∀ bs, Stl ws bs → cnt G (G + 1) bs ≤ low.getD (capD G (dst (G + 1) bs)) 0
  at_ : ∀ k, k < G + 2 → 0 ≤ low.getD k 0 → ∃ bs, Stl ws bs ∧ capD G (dst (G + 1) bs) = k ∧ cnt G (G + 1) bs = low.getD k 0
  top : ∀ k, k < G + 2 → low.getD k 0 = -1000 ∨ 0 ≤ low.getD k 0
theorem ITop.step {G : Nat} {ws : List Wd} {low low2 : List Int} {w : Wd} {f : Int} (h : ITop G ws low) (hf1 : ∃ d, d < G + 2 ∧ f = low.getD d 0 + if d = G + 1 then 1 else 0) (hf2 : ∀ d, d < G + 2 → low.getD d 0 + (if d = G + 1 then 1 else 0) ≤ f)
    (hl : low2.length = G + 2) (h0 : low2.getD 0 0 = if w = .n then -1000 else f) (hk : ∀ k, k < G → low2.getD (k + 1) 0 = if w = .y then -1000 else low.getD k 0)
    (hG : low2.getD (G + 1) 0 = if w = .y then -1000 else max (low.getD G 0) (low.getD (G + 1) 0)) : ITop G (ws ++ [w]) low2 := by
  have f0 : 0 ≤ f := by
    have a := h.le _ (stl_lo ws)
    have b := hf2 _ (capD_lt G (dst (G + 1) (ws.map loB)))
    have c := cnt_ge G (ws.map loB) (G + 1)
    split at b <;> omega
  refine ⟨hl, fun bs hs => ?_, fun k hk1 hk2 => ?_, fun k hk1 => ?_⟩
  · obtain ⟨cs, b, rfl, h1, h2⟩ := stl_snoc hs
    have hd := dst_ge cs (G + 1) (by omega)
    have ih := h.le cs h1
    rw [dst_snoc, cnt_snoc]
    generalize dst (G + 1) cs = d at *
    generalize cnt G (G + 1) cs = c at *
    cases b with
    | true =>
      rw [if_pos rfl]
      have e : capD G 0 = 0 := by unfold capD; rw [if_pos (by omega)]; rfl
      have hw : w ≠ .n := by rintro rfl; simp [okB] at h2
      rw [e, h0, if_neg hw]
      have := hf2 (capD G d) (capD_lt G d)
      have e2 : (capD G d = G + 1) ↔ (G : Int) < d := by
        unfold capD
        split <;> omega
      simp only [e2] at this
      simp only [true_and]
      omega
    | false =>
      rw [if_neg (by simp), if_neg (by simp)]
      have hw : w ≠ .y := by rintro rfl; simp [okB] at h2
      by_cases e1 : d + 1 ≤ G
      · have e2 : capD G (d + 1) = d.toNat + 1 := by
          unfold capD
          rw [if_pos e1]
          omega
        have e3 : capD G d = d.toNat := by
          unfold capD
          rw [if_pos (by omega)]
        rw [e2, hk _ (by omega), if_neg hw]
        rw [e3] at ih
        omega
      · have e2 : capD G (d + 1) = G + 1 := by
          unfold capD
          rw [if_neg e1]
        rw [e2, hG, if_neg hw]
        by_cases e4 : d ≤ G
        · have e3 : capD G d = G := by
            unfold capD
            rw [if_pos e4]
            omega
          rw [e3] at ih
          omega
        · have e3 : capD G d = G + 1 := by
            unfold capD
            rw [if_neg e4]
          rw [e3] at ih
          omega
  · have mk : ∀ j, j < G + 2 → 0 ≤ low.getD j 0 → w ≠ .y → capD G ((j : Int) + 1) = k → ∃ bs, Stl (ws ++ [w]) bs ∧ capD G (dst (G + 1) bs) = k ∧ cnt G (G + 1) bs = low.getD j 0 := fun j j1 j2 hw hj => by
      obtain ⟨cs, a, b, c⟩ := h.at_ j j1 j2
      refine ⟨cs ++ [false], snoc_stl a (by cases w <;> simp [okB] at hw ⊢), ?_, ?_⟩
      · rw [dst_snoc, if_neg (by simp)]
        rw [← hj]
        have hd := dst_ge cs (G + 1) (by omega)
        generalize dst (G + 1) cs = d at *
        unfold capD at b ⊢
        split at b <;> split <;> split <;> omega
      · rw [cnt_snoc, if_neg (by simp), c]
        omega
    by_cases e0 : k = 0
    · subst e0
      rw [h0] at hk2 ⊢
      by_cases hw : w = .n
      · rw [if_pos hw] at hk2
        omega
      · rw [if_neg hw] at hk2 ⊢
        obtain ⟨d, d1, d2⟩ := hf1
        obtain ⟨cs, a, b, c⟩ := h.at_ d d1 (by have := h.top d d1; split at d2 <;> omega)
        refine ⟨cs ++ [true], snoc_stl a (by cases w <;> simp [okB] at hw ⊢), ?_, ?_⟩
        · rw [dst_snoc, if_pos rfl]
          unfold capD
          rw [if_pos (by omega)]
          rfl
        · rw [cnt_snoc, c, d2]
          have e2 : (d = G + 1) ↔ (G : Int) < dst (G + 1) cs := by
            rw [← b]
            unfold capD
            have hd := dst_ge cs (G + 1) (by omega)
            split <;> omega
          simp only [e2, true_and]
    · by_cases e1 : k = G + 1
      · subst e1
        rw [hG] at hk2 ⊢
        by_cases hw : w = .y
        · rw [if_pos hw] at hk2
          omega
        · rw [if_neg hw] at hk2 ⊢
          by_cases e2 : low.getD (G + 1) 0 ≤ low.getD G 0
          · rw [Int.max_eq_left e2] at hk2 ⊢
            exact mk G (by omega) hk2 hw (by unfold capD; rw [if_neg (by omega)])
          · rw [Int.max_eq_right (by omega)] at hk2 ⊢
            exact mk (G + 1) (by omega) hk2 hw (by unfold capD; rw [if_neg (by omega)])
      · obtain ⟨j, rfl⟩ : ∃ j, k = j + 1 := ⟨k - 1, by omega⟩
        rw [hk j (by omega)] at hk2 ⊢
        by_cases hw : w = .y
        · rw [if_pos hw] at hk2
          omega
        · rw [if_neg hw] at hk2 ⊢
          exact mk j (by omega) hk2 hw (by unfold capD; rw [if_pos (by omega)]; omega)
  · by_cases e0 : k = 0
    · subst e0
      rw [h0]
      split <;> omega
    · by_cases e1 : k = G + 1
      · subst e1
        rw [hG]
        have a := h.top G (by omega)
        have b := h.top (G + 1) (by omega)
        split <;> omega
      · obtain ⟨j, rfl⟩ : ∃ j, k = j + 1 := ⟨k - 1, by omega⟩
        rw [hk j (by omega)]
        have b := h.top j (by omega)
        split <;> omega
theorem ITop.start (G : Nat) {low : List Int} (hl : low.length = G + 2) (h0 : ∀ k, k < G + 1 → low.getD k 0 = -1000) (h1 : low.getD (G + 1) 0 = 0) : ITop G [] low where
  len := hl
  le := fun bs hs => by
    cases bs with
    | nil =>
      have e : capD G (dst (G + 1) []) = G + 1 := by unfold capD; rw [dst, if_neg (by omega)]
      rw [e, h1, cnt]
      exact Int.le_refl _
    | cons _ _ => exact hs.elim
  at_ := fun k hk1 hk2 => by
    by_cases e : k = G + 1
    · subst e
      refine ⟨[], trivial, ?_, ?_⟩
      · unfold capD
        rw [dst, if_neg (by omega)]
      · rw [h1, cnt]
    · rw [h0 k (by omega)] at hk2
      omega
  top := fun k hk1 => by
    by_cases e : k = G + 1
    · subst e
      omega
    · rw [h0 k (by omega)]
      omega
theorem ITop.fin {G : Nat} {ws : List Wd} {low : List Int} {m : Int} (h : ITop G ws low) (h1 : ∃ k, k < G + 2 ∧ m = low.getD k 0) (h2 : ∀ k, k < G + 2 → low.getD k 0 ≤ m) : m = MW G (G + 1) ws := by
  obtain ⟨a, cs, b, c⟩ := MW_max G ws (G + 1) (by omega)
  have d := h.le cs b
  have e := h2 _ (capD_lt G (dst (G + 1) cs))
  have f := cnt_ge G cs (G + 1)
  obtain ⟨k, k1, k2⟩ := h1
  obtain ⟨bs, p, q, r⟩ := h.at_ k k1 (by omega)
  have := a bs p
  omega
end Sx

set_option Elab.async false
set_option linter.all false
set_option maxRecDepth 100000
set_option maxHeartbeats 2000000
namespace Sx
open PySem PySem.Spec PyProof.Rows L2
open Evl (Ex)
def topS (i : Nat) : Stmt := PySem.Challenge.pw_surelyseen_k16_incidents_settled.main.body.getD i (.Pass ⟨0, 0, 0, 0⟩)
section
variable {P : Program} {w : World} {K : PySem.W.Frag} {mg : Str → Option Value} {base : Heap}
abbrev s__joined_ticks : Stmt := topS 6
abbrev N__joined_ticks : List Str := ["firing", "words", "gap", "ticks", "found", "place", "tick", "word", "first", "_"]
theorem sc__joined_ticks : FnScope N__joined_ticks ["firing", "words", "gap"] (defScope s__joined_ticks) := ⟨rfl, rfl, rfl, by decide +kernel, rfl, by decide +kernel, by decide +kernel⟩
def b__joined_ticks : En → Option Out :=
      (mSeq (mSet 3 (mList (mComp [6, 7] (mEnum (mVarT 0)) (gTupM 2 (gsCons (gM 6) (gsCons (gM 7) gsNil))) (fun E => ((mBin inD (mVarT 7) (mVarT 1)) E).bind blOf) (mVar 6))))
      (mSeq (mSetO 4 (mLst mNil))
      (mSeq (mFor (mEnum (mVar 3)) (gTupM 2 (gsCons (gM 5) (gsCons (gM 6) gsNil))) (mIfS (mAnd (fun E => ((mBin (intOp fun i j => .bl (decide (j < i))) (mVarT 5) (mC (.int 0))) E).bind blOf) (fun E => ((mBin (intOp fun i j => .bl (decide (i ≤ j))) (mBin (intOp fun i j => .int (i - j)) (mBin (intOp fun i j => .int (i - j)) (mVarT 6) (mBin ixD (mVarT 3) (mBin (intOp fun i j => .int (i - j)) (mVarT 5) (mC (.int 1))))) (mC (.int 1))) (mVarT 2)) E).bind blOf)) (mSeq (mPopA 4 (gTupM 2 (gsCons (gM 8) (gsCons (gM 9) gsNil))))
      (mApp 4 (mTup (mCons (mVar 8) (mCons (mVar 6) mNil))))) (mApp 4 (mTup (mCons (mVar 6) (mCons (mVar 6) mNil))))))
      (mRetO 4))))
def m__joined_ticks : List D → Option D := callM 3 10 b__joined_ticks
theorem fn__joined_ticks {f : Addr} {fd : FuncData} (F : FunD K "_joined_ticks" "_joined_ticks" (defArgs s__joined_ticks) (defBody s__joined_ticks) (defScope s__joined_ticks) [] [] f fd) (h_enumerate : mg "enumerate" = none) : FnOk P w K mg base CX0 1 f fd ["firing", "words", "gap"] (spD K 3 m__joined_ticks) :=
  fn_mk (N := N__joined_ticks) (m := b__joined_ticks) F sc__joined_ticks rfl (fun cdv A outer s H E hr =>
      (dss_cons (ds_setLcF 3 (own := [("tick", 6), ("word", 7)]) rfl sc__joined_ticks.nd (dit_enum h_enumerate (dt_var 0)) (blkOk_by (N := N__joined_ticks) (sc := defScope s__joined_ticks) (by decide +kernel)) (by decide) (fun _ _ _ _ _ => (dg_tup rfl (dgs_cons (dg_name 6 sc__joined_ticks.nd) (dgs_cons (dg_name 7 sc__joined_ticks.nd) dgs_nil)))) (fun _ _ _ _ _ => (dts_one (db_cmp op_in_seq od_in (dt_var 7) (dt_var 1)))) (fun _ _ _ _ _ => (de_var 6)) (sw_true rfl rfl rfl (by decide +kernel)))
      (dss_cons (ds_setO 4 sc__joined_ticks.nd (df_lst da_nil))
      (dss_cons (ds_for PassesOwn.never rfl (di_enum h_enumerate (de_var 3)) (dg_tup rfl (dgs_cons (dg_name 5 sc__joined_ticks.nd) (dgs_cons (dg_name 6 sc__joined_ticks.nd) dgs_nil))) (dss_one (ds_if (DW.toB (dw_and (db_cmp op_gt od_gt (dt_var 5) (DE.t de_int)) (dw_and1 (db_cmp op_le od_le (DE.t (de_sub (DE.t (de_sub (dt_var 6) (DE.t (de_ix (dt_var 3) (DE.t (de_sub (dt_var 5) (DE.t de_int))))))) (DE.t de_int))) (dt_var 2))))) (dss_cons (ds_popA 4 (dg_tup rfl (dgs_cons (dg_name 8 sc__joined_ticks.nd) (dgs_cons (dg_name 9 sc__joined_ticks.nd) dgs_nil))))
      (dss_one (ds_app 4 (de_tup (da_cons (de_var 8) (da_cons (de_var 6) da_nil)))))) (dss_one (ds_app 4 (de_tup (da_cons (de_var 6) (da_cons (de_var 6) da_nil))))))))
      (dss_one (ds_retO 4))))))
theorem bd__joined_ticks (kV doc pm : Value) (an : Option Addr) (cdv ct : Value) (us : List Value) (hl : us.length = ["firing", "words", "gap"].length) : bindArgs (PySem.W.fnOf "_joined_ticks" "_joined_ticks" (defArgs s__joined_ticks) (defBody s__joined_ticks) (defScope s__joined_ticks) .none kV doc pm an cdv ct) ⟨us, []⟩ = pure ((["firing", "words", "gap"] : List Str).zip us) := match us, hl with | [_, _, _], _ => rfl
theorem cal__joined_ticks (F : Stands K mg "_joined_ticks" s__joined_ticks) (h_enumerate : mg "enumerate" = none) : Cal P w K mg base "_joined_ticks" 1 3 m__joined_ticks :=
  cal_of F bd__joined_ticks fun F => fn__joined_ticks F h_enumerate
def mF__joined_ticks : List D → Option (List D) := callF 3 10 b__joined_ticks
theorem fnF__joined_ticks {f : Addr} {fd : FuncData} (F : FunD K "_joined_ticks" "_joined_ticks" (defArgs s__joined_ticks) (defBody s__joined_ticks) (defScope s__joined_ticks) [] [] f fd) (h_enumerate : mg "enumerate" = none) : FnOk P w K mg base CX0 1 f fd ["firing", "words", "gap"] (spF K 3 mF__joined_ticks) :=
  fnF_mk (N := N__joined_ticks) (m := b__joined_ticks) F sc__joined_ticks rfl (fun cdv A outer s H E hr =>
      (dss_cons (ds_setLcF 3 (own := [("tick", 6), ("word", 7)]) rfl sc__joined_ticks.nd (dit_enum h_enumerate (dt_var 0)) (blkOk_by (N := N__joined_ticks) (sc := defScope s__joined_ticks) (by decide +kernel)) (by decide) (fun _ _ _ _ _ => (dg_tup rfl (dgs_cons (dg_name 6 sc__joined_ticks.nd) (dgs_cons (dg_name 7 sc__joined_ticks.nd) dgs_nil)))) (fun _ _ _ _ _ => (dts_one (db_cmp op_in_seq od_in (dt_var 7) (dt_var 1)))) (fun _ _ _ _ _ => (de_var 6)) (sw_true rfl rfl rfl (by decide +kernel)))
      (dss_cons (ds_setO 4 sc__joined_ticks.nd (df_lst da_nil))
      (dss_cons (ds_for PassesOwn.never rfl (di_enum h_enumerate (de_var 3)) (dg_tup rfl (dgs_cons (dg_name 5 sc__joined_ticks.nd) (dgs_cons (dg_name 6 sc__joined_ticks.nd) dgs_nil))) (dss_one (ds_if (DW.toB (dw_and (db_cmp op_gt od_gt (dt_var 5) (DE.t de_int)) (dw_and1 (db_cmp op_le od_le (DE.t (de_sub (DE.t (de_sub (dt_var 6) (DE.t (de_ix (dt_var 3) (DE.t (de_sub (dt_var 5) (DE.t de_int))))))) (DE.t de_int))) (dt_var 2))))) (dss_cons (ds_popA 4 (dg_tup rfl (dgs_cons (dg_name 8 sc__joined_ticks.nd) (dgs_cons (dg_name 9 sc__joined_ticks.nd) dgs_nil))))
      (dss_one (ds_app 4 (de_tup (da_cons (de_var 8) (da_cons (de_var 6) da_nil)))))) (dss_one (ds_app 4 (de_tup (da_cons (de_var 6) (da_cons (de_var 6) da_nil))))))))
      (dss_one (ds_retO 4))))))
theorem calF__joined_ticks (F : Stands K mg "_joined_ticks" s__joined_ticks) (h_enumerate : mg "enumerate" = none) : CalF P w K mg base "_joined_ticks" 1 3 mF__joined_ticks :=
  calF_of F bd__joined_ticks fun F => fnF__joined_ticks F h_enumerate

abbrev s_incidents : Stmt := topS 1
abbrev N_incidents : List Str := ["firing", "gap"]
theorem sc_incidents : FnScope N_incidents ["firing", "gap"] (defScope s_incidents) := ⟨rfl, rfl, rfl, by decide +kernel, rfl, by decide +kernel, by decide +kernel⟩
def b_incidents : En → Option Out :=
      (mRetF (mCallF 3 mF__joined_ticks (mCons (mVar 0) (mCons (mTup (mCons (mC (.str "yes")) mNil)) (mCons (mVar 1) mNil)))))
def m_incidents : List D → Option D := callM 2 2 b_incidents
theorem fn_incidents {f : Addr} {fd : FuncData} (F : FunD K "incidents" "incidents" (defArgs s_incidents) (defBody s_incidents) (defScope s_incidents) [] [("gap", .int 0)] f fd) (f__joined_ticks : CalF P w K mg base "_joined_ticks" 1 3 mF__joined_ticks) : FnOk P w K mg base CX0 2 f fd ["firing", "gap"] (spD K 2 m_incidents) :=
  fn_mkK (N := N_incidents) (m := b_incidents) F sc_incidents rfl (fun cdv A outer s H E hr =>
      (dss_one (ds_retF (df_call f__joined_ticks (hr.mono (by decide)) (da_cons (de_var 0) (da_cons (de_tup (da_cons de_str da_nil)) (da_cons (de_var 1) da_nil)))))))
theorem bz_incidents (D : Addr) (doc pm : Value) (an : Option Addr) (cdv ct : Value) (us ks : List Value) (hl : us.length = 1) (hk : ks.length = 1) : KwChain D ((["gap"] : List Str).zip ks) (bindArgs (PySem.W.fnOf "incidents" "incidents" (defArgs s_incidents) (defBody s_incidents) (defScope s_incidents) .none (.ref D) doc pm an cdv ct) ⟨us, []⟩) ((["firing", "gap"] : List Str).zip (us ++ ks)) := match us, ks, hl, hk with | [_], [_], _, _ => ⟨_, _, _, _, _, _, rfl, rfl, rfl⟩
theorem bd_incidents (D : Addr) (doc pm : Value) (an : Option Addr) (cdv ct : Value) (us ks : List Value) (hl : us.length = 1) (hk : ks.length = 1) : bindArgs (PySem.W.fnOf "incidents" "incidents" (defArgs s_incidents) (defBody s_incidents) (defScope s_incidents) .none (.ref D) doc pm an cdv ct) ⟨us, (["gap"] : List Str).zip ks⟩ = pure ((["firing", "gap"] : List Str).zip (us ++ ks)) := match us, ks, hl, hk with | [_], [_], _, _ => rfl
theorem cal_incidents (F : StandsK K mg "incidents" s_incidents [("gap", .int 0)]) (f__joined_ticks : CalF P w K mg base "_joined_ticks" 1 3 mF__joined_ticks) : CalK P w K mg base "incidents" 2 2 1 ["gap"] [.int 0] (spD K 2 m_incidents) :=
  calK_of (kws := [("gap", .int 0)]) F (by simp) rfl bz_incidents bd_incidents fun F => fn_incidents F f__joined_ticks
def mF_incidents : List D → Option (List D) := callF 2 2 b_incidents
theorem fnF_incidents {f : Addr} {fd : FuncData} (F : FunD K "incidents" "incidents" (defArgs s_incidents) (defBody s_incidents) (defScope s_incidents) [] [("gap", .int 0)] f fd) (f__joined_ticks : CalF P w K mg base "_joined_ticks" 1 3 mF__joined_ticks) : FnOk P w K mg base CX0 2 f fd ["firing", "gap"] (spF K 2 mF_incidents) :=
  fnF_mkK (N := N_incidents) (m := b_incidents) F sc_incidents rfl (fun cdv A outer s H E hr =>
      (dss_one (ds_retF (df_call f__joined_ticks (hr.mono (by decide)) (da_cons (de_var 0) (da_cons (de_tup (da_cons de_str da_nil)) (da_cons (de_var 1) da_nil)))))))
theorem calF_incidents (F : StandsK K mg "incidents" s_incidents [("gap", .int 0)]) (f__joined_ticks : CalF P w K mg base "_joined_ticks" 1 3 mF__joined_ticks) : CalK P w K mg base "incidents" 2 2 1 ["gap"] [.int 0] (spF K 2 mF_incidents) :=
  calK_of (kws := [("gap", .int 0)]) F (by simp) rfl bz_incidents bd_incidents fun F => fnF_incidents F f__joined_ticks

abbrev s_possible_incidents : Stmt := topS 2
abbrev N_possible_incidents : List Str := ["firing", "gap"]
theorem sc_possible_incidents : FnScope N_possible_incidents ["firing", "gap"] (defScope s_possible_incidents) := ⟨rfl, rfl, rfl, by decide +kernel, rfl, by decide +kernel, by decide +kernel⟩
def b_possible_incidents : En → Option Out :=
      (mRetF (mCallF 3 mF__joined_ticks (mCons (mVar 0) (mCons (mTup (mCons (mC (.str "yes")) (mCons (mC (.str "open")) mNil))) (mCons (mVar 1) mNil)))))
def m_possible_incidents : List D → Option D := callM 2 2 b_possible_incidents
theorem fn_possible_incidents {f : Addr} {fd : FuncData} (F : FunD K "possible_incidents" "possible_incidents" (defArgs s_possible_incidents) (defBody s_possible_incidents) (defScope s_possible_incidents) [] [("gap", .int 0)] f fd) (f__joined_ticks : CalF P w K mg base "_joined_ticks" 1 3 mF__joined_ticks) : FnOk P w K mg base CX0 2 f fd ["firing", "gap"] (spD K 2 m_possible_incidents) :=
  fn_mkK (N := N_possible_incidents) (m := b_possible_incidents) F sc_possible_incidents rfl (fun cdv A outer s H E hr =>
      (dss_one (ds_retF (df_call f__joined_ticks (hr.mono (by decide)) (da_cons (de_var 0) (da_cons (de_tup (da_cons de_str (da_cons de_str da_nil))) (da_cons (de_var 1) da_nil)))))))
theorem bz_possible_incidents (D : Addr) (doc pm : Value) (an : Option Addr) (cdv ct : Value) (us ks : List Value) (hl : us.length = 1) (hk : ks.length = 1) : KwChain D ((["gap"] : List Str).zip ks) (bindArgs (PySem.W.fnOf "possible_incidents" "possible_incidents" (defArgs s_possible_incidents) (defBody s_possible_incidents) (defScope s_possible_incidents) .none (.ref D) doc pm an cdv ct) ⟨us, []⟩) ((["firing", "gap"] : List Str).zip (us ++ ks)) := match us, ks, hl, hk with | [_], [_], _, _ => ⟨_, _, _, _, _, _, rfl, rfl, rfl⟩
theorem bd_possible_incidents (D : Addr) (doc pm : Value) (an : Option Addr) (cdv ct : Value) (us ks : List Value) (hl : us.length = 1) (hk : ks.length = 1) : bindArgs (PySem.W.fnOf "possible_incidents" "possible_incidents" (defArgs s_possible_incidents) (defBody s_possible_incidents) (defScope s_possible_incidents) .none (.ref D) doc pm an cdv ct) ⟨us, (["gap"] : List Str).zip ks⟩ = pure ((["firing", "gap"] : List Str).zip (us ++ ks)) := match us, ks, hl, hk with | [_], [_], _, _ => rfl
theorem cal_possible_incidents (F : StandsK K mg "possible_incidents" s_possible_incidents [("gap", .int 0)]) (f__joined_ticks : CalF P w K mg base "_joined_ticks" 1 3 mF__joined_ticks) : CalK P w K mg base "possible_incidents" 2 2 1 ["gap"] [.int 0] (spD K 2 m_possible_incidents) :=
  calK_of (kws := [("gap", .int 0)]) F (by simp) rfl bz_possible_incidents bd_possible_incidents fun F => fn_possible_incidents F f__joined_ticks
def mF_possible_incidents : List D → Option (List D) := callF 2 2 b_possible_incidents
theorem fnF_possible_incidents {f : Addr} {fd : FuncData} (F : FunD K "possible_incidents" "possible_incidents" (defArgs s_possible_incidents) (defBody s_possible_incidents) (defScope s_possible_incidents) [] [("gap", .int 0)] f fd) (f__joined_ticks : CalF P w K mg base "_joined_ticks" 1 3 mF__joined_ticks) : FnOk P w K mg base CX0 2 f fd ["firing", "gap"] (spF K 2 mF_possible_incidents) :=
  fnF_mkK (N := N_possible_incidents) (m := b_possible_incidents) F sc_possible_incidents rfl (fun cdv A outer s H E hr =>
      (dss_one (ds_retF (df_call f__joined_ticks (hr.mono (by decide)) (da_cons (de_var 0) (da_cons (de_tup (da_cons de_str (da_cons de_str da_nil))) (da_cons (de_var 1) da_nil)))))))
theorem calF_possible_incidents (F : StandsK K mg "possible_incidents" s_possible_incidents [("gap", .int 0)]) (f__joined_ticks : CalF P w K mg base "_joined_ticks" 1 3 mF__joined_ticks) : CalK P w K mg base "possible_incidents" 2 2 1 ["gap"] [.int 0] (spF K 2 mF_possible_incidents) :=
  calK_of (kws := [("gap", .int 0)]) F (by simp) rfl bz_possible_incidents bd_possible_incidents fun F => fnF_possible_incidents F f__joined_ticks

abbrev s_incident_range : Stmt := topS 3
abbrev N_incident_range : List Str := ["firing", "gap", "least", "most", "last", "first", "tick", "word", "begins"]
theorem sc_incident_range : FnScope N_incident_range ["firing", "gap"] (defScope s_incident_range) := ⟨rfl, rfl, rfl, by decide +kernel, rfl, by decide +kernel, by decide +kernel⟩
def b_incident_range : En → Option Out :=
      (mSeq (mSet 2 (mC (.int 0)))
      (mSeq (mFor (fun E => ((mCall 2 m_possible_incidents (mApL (mLen 1 (mCons (mVar 0) mNil)) (mLen 1 (mCons (mVar 1) mNil)))) E).bind lstOf) (gTupM 2 (gsCons (gM 5) (gsCons (gM 4) gsNil))) (mIfS (fun E => ((mBin inD (mC (.str "yes")) (mList (fun E => (((mVarT 0) E).bind lstOf).bind fun ds => ((fun E => ((mVarT 5) E).bind inOf) E).bind fun l => ((fun E => ((mBin addD (mVarT 4) (mC (.int 1))) E).bind inOf) E).map fun h => cutD ds l h))) E).bind blOf) (mAug (fun i j => i + j) 2 (mC (.int 1))) mNext))
      (mSeq (mSet 3 (mC (.int 0)))
      (mSeq (mSet 4 (mC .non))
      (mSeq (mFor (mEnum (mVar 0)) (gTupM 2 (gsCons (gM 6) (gsCons (gM 7) gsNil))) (mSeq (mSet 8 (mOrV (mUn (fun d => some (.bl (isN d))) (mVarT 4)) (mBin (intOp fun i j => .bl (decide (j < i))) (mBin (intOp fun i j => .int (i - j)) (mBin (intOp fun i j => .int (i - j)) (mVarT 6) (mVarT 4)) (mC (.int 1))) (mVarT 1))))
      (mIfS (mOr (fun E => ((mBin eqD (mVarT 7) (mC (.str "yes"))) E).bind blOf) (mAnd (fun E => ((mBin eqD (mVarT 7) (mC (.str "open"))) E).bind blOf) (fun E => ((mVarT 8) E).bind truD))) (mSeq (mSet 3 (mIf (fun E => ((mVarT 8) E).bind truD) (mBin addD (mVarT 3) (mC (.int 1))) (mVar 3)))
      (mSet 4 (mVar 6))) mNext)))
      (mRet (mTup (mCons (mVar 2) (mCons (mVar 3) mNil)))))))))
def m_incident_range : List D → Option D := callM 2 9 b_incident_range
theorem fn_incident_range {f : Addr} {fd : FuncData} (F : FunD K "incident_range" "incident_range" (defArgs s_incident_range) (defBody s_incident_range) (defScope s_incident_range) [] [("gap", .int 0)] f fd) (c_possible_incidents : CalK P w K mg base "possible_incidents" 2 2 1 ["gap"] [.int 0] (spD K 2 m_possible_incidents)) (h_enumerate : mg "enumerate" = none) : FnOk P w K mg base CX0 3 f fd ["firing", "gap"] (spD K 2 m_incident_range) :=
  fn_mkK (N := N_incident_range) (m := b_incident_range) F sc_incident_range rfl (fun cdv A outer s H E hr =>
      (dss_cons (ds_set 2 sc_incident_range.nd de_int)
      (dss_cons (ds_for PassesOwn.never rfl (di_list (de_callK c_possible_incidents (hr.mono (by decide)) (da_cons (de_var 0) da_nil) (dk_cons (de_var 1) dk_nil))) (dg_tup rfl (dgs_cons (dg_name 5 sc_incident_range.nd) (dgs_cons (dg_name 4 sc_incident_range.nd) dgs_nil))) (dss_one (ds_if (db_cmp op_in_seq od_in (DE.t de_str) (DF.t (df_slice (dt_var 0) (do_some (dt_var 5)) (do_some (DE.t (de_add (dt_var 4) (DE.t de_int))))))) (dss_one (ds_augAdd 2 sc_incident_range.nd de_int)) dss_nil)))
      (dss_cons (ds_set 3 sc_incident_range.nd de_int)
      (dss_cons (ds_set 4 sc_incident_range.nd de_non)
      (dss_cons (ds_for PassesOwn.never rfl (di_enum h_enumerate (de_var 0)) (dg_tup rfl (dgs_cons (dg_name 6 sc_incident_range.nd) (dgs_cons (dg_name 7 sc_incident_range.nd) dgs_nil))) (dss_cons (ds_set 8 sc_incident_range.nd (de_or (de_isN (dt_var 4)) (de_one (de_cmp op_gt od_gt (DE.t (de_sub (DE.t (de_sub (dt_var 6) (dt_var 4))) (DE.t de_int))) (dt_var 1)))))
      (dss_one (ds_if (DW.toB (dw_or (db_cmp (op_eqAll hr) od_eq (dt_var 7) (DE.t de_str)) (dw_or1 (DW.toB (dw_and (db_cmp (op_eqAll hr) od_eq (dt_var 7) (DE.t de_str)) (dw_and1 (db_tru (dt_var 8)))))))) (dss_cons (ds_set 3 sc_incident_range.nd (de_if (db_tru (dt_var 8)) (de_add (dt_var 3) (DE.t de_int)) (de_var 3)))
      (dss_one (ds_set 4 sc_incident_range.nd (de_var 6)))) dss_nil))))
      (dss_one (ds_ret (DE.t (de_tup (da_cons (de_var 2) (da_cons (de_var 3) da_nil))))))))))))
theorem bz_incident_range (D : Addr) (doc pm : Value) (an : Option Addr) (cdv ct : Value) (us ks : List Value) (hl : us.length = 1) (hk : ks.length = 1) : KwChain D ((["gap"] : List Str).zip ks) (bindArgs (PySem.W.fnOf "incident_range" "incident_range" (defArgs s_incident_range) (defBody s_incident_range) (defScope s_incident_range) .none (.ref D) doc pm an cdv ct) ⟨us, []⟩) ((["firing", "gap"] : List Str).zip (us ++ ks)) := match us, ks, hl, hk with | [_], [_], _, _ => ⟨_, _, _, _, _, _, rfl, rfl, rfl⟩
theorem bd_incident_range (D : Addr) (doc pm : Value) (an : Option Addr) (cdv ct : Value) (us ks : List Value) (hl : us.length = 1) (hk : ks.length = 1) : bindArgs (PySem.W.fnOf "incident_range" "incident_range" (defArgs s_incident_range) (defBody s_incident_range) (defScope s_incident_range) .none (.ref D) doc pm an cdv ct) ⟨us, (["gap"] : List Str).zip ks⟩ = pure ((["firing", "gap"] : List Str).zip (us ++ ks)) := match us, ks, hl, hk with | [_], [_], _, _ => rfl
theorem cal_incident_range (F : StandsK K mg "incident_range" s_incident_range [("gap", .int 0)]) (c_possible_incidents : CalK P w K mg base "possible_incidents" 2 2 1 ["gap"] [.int 0] (spD K 2 m_possible_incidents)) (h_enumerate : mg "enumerate" = none) : CalK P w K mg base "incident_range" 3 2 1 ["gap"] [.int 0] (spD K 2 m_incident_range) :=
  calK_of (kws := [("gap", .int 0)]) F (by simp) rfl bz_incident_range bd_incident_range fun F => fn_incident_range F c_possible_incidents h_enumerate

abbrev s__is_within : Stmt := topS 7
abbrev N__is_within : List Str := ["pairs", "first", "last", "begin", "end"]
theorem sc__is_within : FnScope N__is_within ["pairs", "first", "last"] (defScope s__is_within) := ⟨rfl, rfl, rfl, by decide +kernel, rfl, by decide +kernel, by decide +kernel⟩
def b__is_within : En → Option Out :=
      (mRet (mUn anyLD (mList (mComp [3, 4] (fun E => ((mVarT 0) E).bind lstOf) (gTupM 2 (gsCons (gM 3) (gsCons (gM 4) gsNil))) mYes (mAndV (mBin (intOp fun i j => .bl (decide (i ≤ j))) (mVarT 3) (mVarT 1)) (mBin (intOp fun i j => .bl (decide (i ≤ j))) (mVarT 2) (mVarT 4)))))))
def m__is_within : List D → Option D := callM 3 5 b__is_within
theorem fn__is_within {f : Addr} {fd : FuncData} (F : FunD K "_is_within" "_is_within" (defArgs s__is_within) (defBody s__is_within) (defScope s__is_within) [] [] f fd) (h_any : mg "any" = none) : FnOk P w K mg base CX0 1 f fd ["pairs", "first", "last"] (spD K 3 m__is_within) :=
  fn_mk (N := N__is_within) (m := b__is_within) F sc__is_within rfl (fun cdv A outer s H E hr =>
      (dss_one (ds_ret (DE.t (de_any rfl h_any (DF.t (df_lc (own := [("begin", 3), ("end", 4)]) rfl sc__is_within.nd (dit_list (dt_var 0)) (blkOk_by (N := N__is_within) (sc := defScope s__is_within) (by decide +kernel)) (by decide) (fun _ _ _ _ _ => (dg_tup rfl (dgs_cons (dg_name 3 sc__is_within.nd) (dgs_cons (dg_name 4 sc__is_within.nd) dgs_nil)))) (fun _ _ _ _ _ => dts_nil) (fun _ _ _ _ _ => (de_and (de_cmp op_le od_le (dt_var 3) (dt_var 1)) (de_one (de_cmp op_le od_le (dt_var 2) (dt_var 4))))))))))))
theorem bd__is_within (kV doc pm : Value) (an : Option Addr) (cdv ct : Value) (us : List Value) (hl : us.length = ["pairs", "first", "last"].length) : bindArgs (PySem.W.fnOf "_is_within" "_is_within" (defArgs s__is_within) (defBody s__is_within) (defScope s__is_within) .none kV doc pm an cdv ct) ⟨us, []⟩ = pure ((["pairs", "first", "last"] : List Str).zip us) := match us, hl with | [_, _, _], _ => rfl
theorem cal__is_within (F : Stands K mg "_is_within" s__is_within) (h_any : mg "any" = none) : Cal P w K mg base "_is_within" 1 3 m__is_within :=
  cal_of F bd__is_within fun F => fn__is_within F h_any

abbrev s_joined : Stmt := topS 4
abbrev N_joined : List Str := ["firing", "first", "last", "gap", "open_too"]
theorem sc_joined : FnScope N_joined ["firing", "first", "last", "gap"] (defScope s_joined) := ⟨rfl, rfl, rfl, by decide +kernel, rfl, by decide +kernel, by decide +kernel⟩
def b_joined : En → Option Out :=
      (mSeq (mIfS (mAnd (fun E => ((mCall 3 m__is_within (mCons (mCall 2 m_incidents (mApL (mLen 1 (mCons (mVar 0) mNil)) (mLen 1 (mCons (mVar 3) mNil)))) (mCons (mVar 1) (mCons (mVar 2) mNil)))) E).bind truD) (fun E => ((mChain eqD eqD (mBin ixD (mVarT 0) (mVarT 1)) (mBin ixD (mVarT 0) (mVarT 2)) (mC (.str "yes"))) E).bind blOf)) (mRet (mC (.str "yes"))) mNext)
      (mSeq (mSet 4 (mAndV (mBin neD (mBin ixD (mVarT 0) (mVarT 1)) (mC (.str "no"))) (mBin neD (mBin ixD (mVarT 0) (mVarT 2)) (mC (.str "no")))))
      (mRet (mIf (mAnd (fun E => ((mVarT 4) E).bind truD) (fun E => ((mCall 3 m__is_within (mCons (mCall 2 m_possible_incidents (mApL (mLen 1 (mCons (mVar 0) mNil)) (mLen 1 (mCons (mVar 3) mNil)))) (mCons (mVar 1) (mCons (mVar 2) mNil)))) E).bind truD)) (mC (.str "open")) (mC (.str "no"))))))
def m_joined : List D → Option D := callM 4 5 b_joined
theorem fn_joined {f : Addr} {fd : FuncData} (F : FunD K "joined" "joined" (defArgs s_joined) (defBody s_joined) (defScope s_joined) [] [("gap", .int 0)] f fd) (c__is_within : Cal P w K mg base "_is_within" 1 3 m__is_within) (c_incidents : CalK P w K mg base "incidents" 2 2 1 ["gap"] [.int 0] (spD K 2 m_incidents)) (c_possible_incidents : CalK P w K mg base "possible_incidents" 2 2 1 ["gap"] [.int 0] (spD K 2 m_possible_incidents)) : FnOk P w K mg base CX0 3 f fd ["firing", "first", "last", "gap"] (spD K 4 m_joined) :=
  fn_mkK (N := N_joined) (m := b_joined) F sc_joined rfl (fun cdv A outer s H E hr =>
      (dss_cons (ds_if (DW.toB (dw_and (db_tru (DE.t (de_call c__is_within (hr.mono (by decide)) (da_cons (de_callK c_incidents (hr.mono (by decide)) (da_cons (de_var 0) da_nil) (dk_cons (de_var 3) dk_nil)) (da_cons (de_var 1) (da_cons (de_var 2) da_nil)))))) (dw_and1 (db_chain (op_eqAll hr) od_eq (op_eqAll hr) od_eq (DE.t (de_ix (dt_var 0) (dt_var 1))) (DE.t (de_ix (dt_var 0) (dt_var 2))) (DE.t de_str))))) (dss_one (ds_ret (DE.t de_str))) dss_nil)
      (dss_cons (ds_set 4 sc_joined.nd (de_and (de_cmp (op_neAll hr) od_ne (DE.t (de_ix (dt_var 0) (dt_var 1))) (DE.t de_str)) (de_one (de_cmp (op_neAll hr) od_ne (DE.t (de_ix (dt_var 0) (dt_var 2))) (DE.t de_str)))))
      (dss_one (ds_ret (DE.t (de_if (DW.toB (dw_and (db_tru (dt_var 4)) (dw_and1 (db_tru (DE.t (de_call c__is_within (hr.mono (by decide)) (da_cons (de_callK c_possible_incidents (hr.mono (by decide)) (da_cons (de_var 0) da_nil) (dk_cons (de_var 3) dk_nil)) (da_cons (de_var 1) (da_cons (de_var 2) da_nil))))))))) de_str de_str)))))))
theorem bz_joined (D : Addr) (doc pm : Value) (an : Option Addr) (cdv ct : Value) (us ks : List Value) (hl : us.length = 3) (hk : ks.length = 1) : KwChain D ((["gap"] : List Str).zip ks) (bindArgs (PySem.W.fnOf "joined" "joined" (defArgs s_joined) (defBody s_joined) (defScope s_joined) .none (.ref D) doc pm an cdv ct) ⟨us, []⟩) ((["firing", "first", "last", "gap"] : List Str).zip (us ++ ks)) := match us, ks, hl, hk with | [_, _, _], [_], _, _ => ⟨_, _, _, _, _, _, rfl, rfl, rfl⟩
theorem bd_joined (D : Addr) (doc pm : Value) (an : Option Addr) (cdv ct : Value) (us ks : List Value) (hl : us.length = 3) (hk : ks.length = 1) : bindArgs (PySem.W.fnOf "joined" "joined" (defArgs s_joined) (defBody s_joined) (defScope s_joined) .none (.ref D) doc pm an cdv ct) ⟨us, (["gap"] : List Str).zip ks⟩ = pure ((["firing", "first", "last", "gap"] : List Str).zip (us ++ ks)) := match us, ks, hl, hk with | [_, _, _], [_], _, _ => rfl
theorem cal_joined (F : StandsK K mg "joined" s_joined [("gap", .int 0)]) (c__is_within : Cal P w K mg base "_is_within" 1 3 m__is_within) (c_incidents : CalK P w K mg base "incidents" 2 2 1 ["gap"] [.int 0] (spD K 2 m_incidents)) (c_possible_incidents : CalK P w K mg base "possible_incidents" 2 2 1 ["gap"] [.int 0] (spD K 2 m_possible_incidents)) : CalK P w K mg base "joined" 3 4 3 ["gap"] [.int 0] (spD K 4 m_joined) :=
  calK_of (kws := [("gap", .int 0)]) F (by simp) rfl bz_joined bd_joined fun F => fn_joined F c__is_within c_incidents c_possible_incidents

abbrev s_silenced : Stmt := topS 5
abbrev N_silenced : List Str := ["firing", "silences", "found", "tick", "word", "quiet", "first", "last"]
theorem sc_silenced : FnScope N_silenced ["firing", "silences"] (defScope s_silenced) := ⟨rfl, rfl, rfl, by decide +kernel, rfl, by decide +kernel, by decide +kernel⟩
def b_silenced : En → Option Out :=
      (mSeq (mSetO 2 (mLst mNil))
      (mSeq (mFor (mEnum (mVar 0)) (gTupM 2 (gsCons (gM 3) (gsCons (gM 4) gsNil))) (mSeq (mSet 5 (mUn anyLD (mList (mComp [6, 7] (fun E => ((mVarT 1) E).bind lstOf) (gTupM 2 (gsCons (gM 6) (gsCons (gM 7) gsNil))) mYes (mChain (intOp fun i j => .bl (decide (i ≤ j))) (intOp fun i j => .bl (decide (i ≤ j))) (mVarT 6) (mVarT 3) (mVarT 7))))))
      (mApp 2 (mIf (fun E => ((mVarT 5) E).bind truD) (mC (.str "no")) (mVar 4)))))
      (mRetO 2)))
def m_silenced : List D → Option D := callM 2 8 b_silenced
theorem fn_silenced {f : Addr} {fd : FuncData} (F : FunD K "silenced" "silenced" (defArgs s_silenced) (defBody s_silenced) (defScope s_silenced) [] [] f fd) (h_enumerate : mg "enumerate" = none) (h_any : mg "any" = none) : FnOk P w K mg base CX0 1 f fd ["firing", "silences"] (spD K 2 m_silenced) :=
  fn_mk (N := N_silenced) (m := b_silenced) F sc_silenced rfl (fun cdv A outer s H E hr =>
      (dss_cons (ds_setO 2 sc_silenced.nd (df_lst da_nil))
      (dss_cons (ds_for PassesOwn.never rfl (di_enum h_enumerate (de_var 0)) (dg_tup rfl (dgs_cons (dg_name 3 sc_silenced.nd) (dgs_cons (dg_name 4 sc_silenced.nd) dgs_nil))) (dss_cons (ds_set 5 sc_silenced.nd (de_any rfl h_any (DF.t (df_lc (own := [("first", 6), ("last", 7)]) rfl sc_silenced.nd (dit_list (dt_var 1)) (blkOk_by (N := N_silenced) (sc := defScope s_silenced) (by decide +kernel)) (by decide) (fun _ _ _ _ _ => (dg_tup rfl (dgs_cons (dg_name 6 sc_silenced.nd) (dgs_cons (dg_name 7 sc_silenced.nd) dgs_nil)))) (fun _ _ _ _ _ => dts_nil) (fun _ _ _ _ _ => (de_chain op_le od_le op_le od_le (dt_var 6) (dt_var 3) (dt_var 7)))))))
      (dss_one (ds_app 2 (de_if (db_tru (dt_var 5)) de_str (de_var 4))))))
      (dss_one (ds_retO 2)))))
theorem bd_silenced (kV doc pm : Value) (an : Option Addr) (cdv ct : Value) (us : List Value) (hl : us.length = ["firing", "silences"].length) : bindArgs (PySem.W.fnOf "silenced" "silenced" (defArgs s_silenced) (defBody s_silenced) (defScope s_silenced) .none kV doc pm an cdv ct) ⟨us, []⟩ = pure ((["firing", "silences"] : List Str).zip us) := match us, hl with | [_, _], _ => rfl
theorem cal_silenced (F : Stands K mg "silenced" s_silenced) (h_enumerate : mg "enumerate" = none) (h_any : mg "any" = none) : Cal P w K mg base "silenced" 1 2 m_silenced :=
  cal_of F bd_silenced fun F => fn_silenced F h_enumerate h_any
def mF_silenced : List D → Option (List D) := callF 2 8 b_silenced
theorem fnF_silenced {f : Addr} {fd : FuncData} (F : FunD K "silenced" "silenced" (defArgs s_silenced) (defBody s_silenced) (defScope s_silenced) [] [] f fd) (h_enumerate : mg "enumerate" = none) (h_any : mg "any" = none) : FnOk P w K mg base CX0 1 f fd ["firing", "silences"] (spF K 2 mF_silenced) :=
  fnF_mk (N := N_silenced) (m := b_silenced) F sc_silenced rfl (fun cdv A outer s H E hr =>
      (dss_cons (ds_setO 2 sc_silenced.nd (df_lst da_nil))
      (dss_cons (ds_for PassesOwn.never rfl (di_enum h_enumerate (de_var 0)) (dg_tup rfl (dgs_cons (dg_name 3 sc_silenced.nd) (dgs_cons (dg_name 4 sc_silenced.nd) dgs_nil))) (dss_cons (ds_set 5 sc_silenced.nd (de_any rfl h_any (DF.t (df_lc (own := [("first", 6), ("last", 7)]) rfl sc_silenced.nd (dit_list (dt_var 1)) (blkOk_by (N := N_silenced) (sc := defScope s_silenced) (by decide +kernel)) (by decide) (fun _ _ _ _ _ => (dg_tup rfl (dgs_cons (dg_name 6 sc_silenced.nd) (dgs_cons (dg_name 7 sc_silenced.nd) dgs_nil)))) (fun _ _ _ _ _ => dts_nil) (fun _ _ _ _ _ => (de_chain op_le od_le op_le od_le (dt_var 6) (dt_var 3) (dt_var 7)))))))
      (dss_one (ds_app 2 (de_if (db_tru (dt_var 5)) de_str (de_var 4))))))
      (dss_one (ds_retO 2)))))
theorem calF_silenced (F : Stands K mg "silenced" s_silenced) (h_enumerate : mg "enumerate" = none) (h_any : mg "any" = none) : CalF P w K mg base "silenced" 1 2 mF_silenced :=
  calF_of F bd_silenced fun F => fnF_silenced F h_enumerate h_any

abbrev s__law_cell : Stmt := topS 9
abbrev N__law_cell : List Str := ["script", "at", "mixed", "cell"]
theorem sc__law_cell : FnScope N__law_cell ["script", "at"] (defScope s__law_cell) := ⟨rfl, rfl, rfl, by decide +kernel, rfl, by decide +kernel, by decide +kernel⟩
def b__law_cell : En → Option Out :=
      (mSeq (mIfS (fun E => ((mBin (intOp fun i j => .bl (decide (i < j))) (mVarT 1) (mUn lenD (mVarT 0))) E).bind blOf) (mRet (mUn intD (mBin ixD (mVarT 0) (mVarT 1)))) mNext)
      (mSeq (mSet 2 (mBin addD (mC (.int 11)) (mBin (intOpC mulOk fun i j => .int (i * j)) (mC (.int 101)) (mVarT 1))))
      (mSeq (mFor (fun E => ((mVar 0) E).bind lstOf) (gM 3) (mSet 2 (mBin (intOpC (fun _ j => decide (0 < j)) fun i j => .int (i % j)) (mUn intD (mBin addD (mBin (intOpC mulOk fun i j => .int (i * j)) (mVarT 2) (mC (.int 31))) (mVarT 3))) (mC (.int 1000000007)))))
      (mRet (mVarT 2)))))
def m__law_cell : List D → Option D := callM 2 4 b__law_cell
theorem fn__law_cell {f : Addr} {fd : FuncData} (F : FunD K "_law_cell" "_law_cell" (defArgs s__law_cell) (defBody s__law_cell) (defScope s__law_cell) [] [] f fd) (h_len : mg "len" = none) (h_int : mg "int" = none) : FnOk P w K mg base CX0 1 f fd ["script", "at"] (spD K 2 m__law_cell) :=
  fn_mk (N := N__law_cell) (m := b__law_cell) F sc__law_cell rfl (fun cdv A outer s H E hr =>
      (dss_cons (ds_if (db_cmp op_lt od_lt (dt_var 1) (DE.t (de_len h_len (dt_var 0)))) (dss_one (ds_ret (DE.t (de_int1 h_int (DE.t (de_ix (dt_var 0) (dt_var 1))))))) dss_nil)
      (dss_cons (ds_set 2 sc__law_cell.nd (de_add (DE.t de_int) (DE.t (de_mul (DE.t de_int) (dt_var 1)))))
      (dss_cons (ds_for PassesOwn.never rfl (di_list (de_var 0)) (dg_name 3 sc__law_cell.nd) (dss_one (ds_set 2 sc__law_cell.nd (de_mod (DE.t (de_int1 h_int (DE.t (de_add (DE.t (de_mul (dt_var 2) (DE.t de_int))) (dt_var 3))))) (DE.t de_int)))))
      (dss_one (ds_ret (dt_var 2)))))))
theorem bd__law_cell (kV doc pm : Value) (an : Option Addr) (cdv ct : Value) (us : List Value) (hl : us.length = ["script", "at"].length) : bindArgs (PySem.W.fnOf "_law_cell" "_law_cell" (defArgs s__law_cell) (defBody s__law_cell) (defScope s__law_cell) .none kV doc pm an cdv ct) ⟨us, []⟩ = pure ((["script", "at"] : List Str).zip us) := match us, hl with | [_, _], _ => rfl
theorem cal__law_cell (F : Stands K mg "_law_cell" s__law_cell) (h_len : mg "len" = none) (h_int : mg "int" = none) : Cal P w K mg base "_law_cell" 1 2 m__law_cell :=
  cal_of F bd__law_cell fun F => fn__law_cell F h_len h_int

abbrev s__law_draw : Stmt := topS 10
abbrev N__law_draw : List Str := ["script", "at", "k", "size", "cell", "mixed", "rest", "turn"]
theorem sc__law_draw : FnScope N__law_draw ["script", "at", "k", "size"] (defScope s__law_draw) := ⟨rfl, rfl, rfl, by decide +kernel, rfl, by decide +kernel, by decide +kernel⟩
def b__law_draw : En → Option Out :=
      (mSeq (mSet 4 (mCall 2 m__law_cell (mCons (mVar 0) (mCons (mVar 1) mNil))))
      (mSeq (mIfS (fun E => ((mBin (intOp fun i j => .bl (decide (j ≤ i))) (mVarT 4) (mBin (intOpC powOk fun i j => .int (i ^ j.toNat)) (mC (.int 10)) (mC (.int 18)))) E).bind blOf) (mSeq (mSet 6 (mVar 4))
      (mSeq (mFor (fun E => ((mVarT 2) E).bind rg1) (gM 7) (mSet 6 (mBin (intOpC divOk fun i j => .int (i / j)) (mVarT 6) (mC (.int 1000003)))))
      (mIfS (fun E => ((mBin (intOp fun i j => .bl (decide (j < i))) (mVarT 6) (mC (.int 0))) E).bind blOf) (mRet (mBin (intOpC (fun _ j => decide (0 < j)) fun i j => .int (i % j)) (mBin (intOpC (fun _ j => decide (0 < j)) fun i j => .int (i % j)) (mUn intD (mVarT 6)) (mC (.int 1000003))) (mVarT 3))) mNext))) mNext)
      (mSeq (mSet 5 (mBin (intOpC (fun _ j => decide (0 < j)) fun i j => .int (i % j)) (mUn intD (mBin addD (mBin addD (mVarT 4) (mBin (intOpC mulOk fun i j => .int (i * j)) (mC (.int 7919)) (mVarT 2))) (mC (.int 13)))) (mC (.int 2147483647))))
      (mSeq (mSet 5 (mBin (intOpC (fun _ j => decide (0 < j)) fun i j => .int (i % j)) (mUn intD (mBin (intOpC mulOk fun i j => .int (i * j)) (mVarT 5) (mBin addD (mVarT 5) (mC (.int 48271))))) (mC (.int 2147483629))))
      (mSeq (mSet 5 (mBin (intOpC (fun _ j => decide (0 < j)) fun i j => .int (i % j)) (mUn intD (mBin addD (mBin (intOpC mulOk fun i j => .int (i * j)) (mVarT 5) (mBin addD (mVarT 5) (mC (.int 69621)))) (mBin (intOpC mulOk fun i j => .int (i * j)) (mC (.int 31)) (mVarT 2)))) (mC (.int 2147483647))))
      (mRet (mBin (intOpC (fun _ j => decide (0 < j)) fun i j => .int (i % j)) (mUn intD (mBin (intOpC divOk fun i j => .int (i / j)) (mVarT 5) (mC (.int 9)))) (mVarT 3))))))))
def m__law_draw : List D → Option D := callM 4 8 b__law_draw
theorem fn__law_draw {f : Addr} {fd : FuncData} (F : FunD K "_law_draw" "_law_draw" (defArgs s__law_draw) (defBody s__law_draw) (defScope s__law_draw) [] [] f fd) (c__law_cell : Cal P w K mg base "_law_cell" 1 2 m__law_cell) (h_range : mg "range" = none) (h_int : mg "int" = none) : FnOk P w K mg base CX0 2 f fd ["script", "at", "k", "size"] (spD K 4 m__law_draw) :=
  fn_mk (N := N__law_draw) (m := b__law_draw) F sc__law_draw rfl (fun cdv A outer s H E hr =>
      (dss_cons (ds_set 4 sc__law_draw.nd (de_call c__law_cell (hr.mono (by decide)) (da_cons (de_var 0) (da_cons (de_var 1) da_nil))))
      (dss_cons (ds_if (db_cmp op_ge od_ge (dt_var 4) (DE.t (de_pow (DE.t de_int) (DE.t de_int)))) (dss_cons (ds_set 6 sc__law_draw.nd (de_var 4))
      (dss_cons (ds_for PassesOwn.never rfl (di_range1 h_range (dt_var 2)) (dg_name 7 sc__law_draw.nd) (dss_one (ds_set 6 sc__law_draw.nd (de_fdiv (dt_var 6) (DE.t de_int)))))
      (dss_one (ds_if (db_cmp op_gt od_gt (dt_var 6) (DE.t de_int)) (dss_one (ds_ret (DE.t (de_mod (DE.t (de_mod (DE.t (de_int1 h_int (dt_var 6))) (DE.t de_int))) (dt_var 3))))) dss_nil)))) dss_nil)
      (dss_cons (ds_set 5 sc__law_draw.nd (de_mod (DE.t (de_int1 h_int (DE.t (de_add (DE.t (de_add (dt_var 4) (DE.t (de_mul (DE.t de_int) (dt_var 2))))) (DE.t de_int))))) (DE.t de_int)))
      (dss_cons (ds_set 5 sc__law_draw.nd (de_mod (DE.t (de_int1 h_int (DE.t (de_mul (dt_var 5) (DE.t (de_add (dt_var 5) (DE.t de_int))))))) (DE.t de_int)))
      (dss_cons (ds_set 5 sc__law_draw.nd (de_mod (DE.t (de_int1 h_int (DE.t (de_add (DE.t (de_mul (dt_var 5) (DE.t (de_add (dt_var 5) (DE.t de_int))))) (DE.t (de_mul (DE.t de_int) (dt_var 2))))))) (DE.t de_int)))
      (dss_one (ds_ret (DE.t (de_mod (DE.t (de_int1 h_int (DE.t (de_fdiv (dt_var 5) (DE.t de_int))))) (dt_var 3)))))))))))
theorem bd__law_draw (kV doc pm : Value) (an : Option Addr) (cdv ct : Value) (us : List Value) (hl : us.length = ["script", "at", "k", "size"].length) : bindArgs (PySem.W.fnOf "_law_draw" "_law_draw" (defArgs s__law_draw) (defBody s__law_draw) (defScope s__law_draw) .none kV doc pm an cdv ct) ⟨us, []⟩ = pure ((["script", "at", "k", "size"] : List Str).zip us) := match us, hl with | [_, _, _, _], _ => rfl
theorem cal__law_draw (F : Stands K mg "_law_draw" s__law_draw) (c__law_cell : Cal P w K mg base "_law_cell" 1 2 m__law_cell) (h_range : mg "range" = none) (h_int : mg "int" = none) : Cal P w K mg base "_law_draw" 2 4 m__law_draw :=
  cal_of F bd__law_draw fun F => fn__law_draw F c__law_cell h_range h_int

abbrev s__law_menu : Stmt := topS 11
abbrev N__law_menu : List Str := ["shape"]
theorem sc__law_menu : FnScope N__law_menu ["shape"] (defScope s__law_menu) := ⟨rfl, rfl, rfl, by decide +kernel, rfl, by decide +kernel, by decide +kernel⟩
def b__law_menu : En → Option Out :=
      (mSeq (mIfS (fun E => ((mBin eqD (mVarT 0) (mC (.int 0))) E).bind blOf) (mRetF (mLst (mCons (mC (.str "yes")) (mCons (mC (.str "no")) (mCons (mC (.str "open")) mNil))))) mNext)
      (mSeq (mIfS (fun E => ((mBin eqD (mVarT 0) (mC (.int 1))) E).bind blOf) (mRetF (mLst (mCons (mC (.str "yes")) (mCons (mC (.str "no")) (mCons (mC (.str "no")) (mCons (mC (.str "no")) (mCons (mC (.str "open")) mNil))))))) mNext)
      (mSeq (mIfS (fun E => ((mBin eqD (mVarT 0) (mC (.int 2))) E).bind blOf) (mRetF (mLst (mCons (mC (.str "no")) (mCons (mC (.str "open")) mNil)))) mNext)
      (mRetF (mLst (mCons (mC (.str "yes")) (mCons (mC (.str "no")) mNil)))))))
def m__law_menu : List D → Option D := callM 1 1 b__law_menu
theorem fn__law_menu {f : Addr} {fd : FuncData} (F : FunD K "_law_menu" "_law_menu" (defArgs s__law_menu) (defBody s__law_menu) (defScope s__law_menu) [] [] f fd) : FnOk P w K mg base CX0 1 f fd ["shape"] (spD K 1 m__law_menu) :=
  fn_mk (N := N__law_menu) (m := b__law_menu) F sc__law_menu rfl (fun cdv A outer s H E hr =>
      (dss_cons (ds_if (db_cmp (op_eqAll hr) od_eq (dt_var 0) (DE.t de_int)) (dss_one (ds_retF (df_lst (da_cons de_str (da_cons de_str (da_cons de_str da_nil)))))) dss_nil)
      (dss_cons (ds_if (db_cmp (op_eqAll hr) od_eq (dt_var 0) (DE.t de_int)) (dss_one (ds_retF (df_lst (da_cons de_str (da_cons de_str (da_cons de_str (da_cons de_str (da_cons de_str da_nil)))))))) dss_nil)
      (dss_cons (ds_if (db_cmp (op_eqAll hr) od_eq (dt_var 0) (DE.t de_int)) (dss_one (ds_retF (df_lst (da_cons de_str (da_cons de_str da_nil))))) dss_nil)
      (dss_one (ds_retF (df_lst (da_cons de_str (da_cons de_str da_nil)))))))))
theorem bd__law_menu (kV doc pm : Value) (an : Option Addr) (cdv ct : Value) (us : List Value) (hl : us.length = ["shape"].length) : bindArgs (PySem.W.fnOf "_law_menu" "_law_menu" (defArgs s__law_menu) (defBody s__law_menu) (defScope s__law_menu) .none kV doc pm an cdv ct) ⟨us, []⟩ = pure ((["shape"] : List Str).zip us) := match us, hl with | [_], _ => rfl
theorem cal__law_menu (F : Stands K mg "_law_menu" s__law_menu) : Cal P w K mg base "_law_menu" 1 1 m__law_menu :=
  cal_of F bd__law_menu fun F => fn__law_menu F

abbrev s__law_firing : Stmt := topS 12
abbrev N__law_firing : List Str := ["script", "long_list", "menu", "firing", "width", "part", "size", "k", "word"]
theorem sc__law_firing : FnScope N__law_firing ["script", "long_list"] (defScope s__law_firing) := ⟨rfl, rfl, rfl, by decide +kernel, rfl, by decide +kernel, by decide +kernel⟩
def b__law_firing : En → Option Out :=
      (mSeq (mSet 2 (mCall 1 m__law_menu (mCons (mCall 4 m__law_draw (mCons (mVar 0) (mCons (mC (.int 0)) (mCons (mC (.int 1)) (mCons (mC (.int 4)) mNil))))) mNil)))
      (mSeq (mSetO 3 (mLst mNil))
      (mSeq (mIfS (mNot (fun E => ((mVarT 1) E).bind truD)) (mSeq (mFor (fun E => ((mCall 4 m__law_draw (mCons (mVar 0) (mCons (mC (.int 0)) (mCons (mC (.int 2)) (mCons (mC (.int 13)) mNil))))) E).bind rg1) (gM 7) (mSeq (mSet 8 (mBin ixD (mVarT 2) (mCall 4 m__law_draw (mCons (mVar 0) (mCons (mC (.int 1)) (mCons (mVar 7) (mCons (mUn lenD (mVarT 2)) mNil)))))))
      (mSeq (mIfS (mAnd (fun E => ((mBin eqD (mVarT 8) (mC (.str "open"))) E).bind blOf) (fun E => ((mBin eqD (mBin cntD (mVarT 3) (mC (.str "open"))) (mC (.int 7))) E).bind blOf)) (mSet 8 (mC (.str "no"))) mNext)
      (mApp 3 (mVar 8)))))
      (mRetO 3)) mNext)
      (mSeq (mSet 4 (mBin addD (mC (.int 1)) (mCall 4 m__law_draw (mCons (mVar 0) (mCons (mC (.int 0)) (mCons (mC (.int 4)) (mCons (mC (.int 24)) mNil)))))))
      (mSeq (mSet 5 (mList (mComp [7] (fun E => ((mVarT 4) E).bind rg1) (gM 7) mYes (mBin ixD (mVarT 2) (mCall 4 m__law_draw (mCons (mVar 0) (mCons (mC (.int 1)) (mCons (mVar 7) (mCons (mUn lenD (mVarT 2)) mNil)))))))))
      (mSeq (mSet 6 (mC (.int 200)))
      (mSeq (mIfS (fun E => ((mBin eqD (mCall 4 m__law_draw (mCons (mVar 0) (mCons (mC (.int 0)) (mCons (mC (.int 5)) (mCons (mC (.int 2)) mNil))))) (mC (.int 0))) E).bind blOf) (mSet 6 (mBin addD (mC (.int 13)) (mCall 4 m__law_draw (mCons (mVar 0) (mCons (mC (.int 0)) (mCons (mC (.int 6)) (mCons (mC (.int 187)) mNil))))))) mNext)
      (mSeq (mFor (fun E => ((mVarT 6) E).bind rg1) (gM 7) (mApp 3 (mBin ixD (mVarT 5) (mBin (intOpC (fun _ j => decide (0 < j)) fun i j => .int (i % j)) (mVarT 7) (mVarT 4)))))
      (mSeq (mFor (fun E => ((mC (.int 8)) E).bind rg1) (gM 7) (mSub 3 (mBin ixD (mList (mLst (mCons (mC (.str "yes")) (mCons (mC (.str "no")) (mCons (mC (.str "open")) mNil))))) (mCall 4 m__law_draw (mCons (mVar 0) (mCons (mC (.int 3)) (mCons (mBin addD (mBin (intOpC mulOk fun i j => .int (i * j)) (mC (.int 2)) (mVarT 7)) (mC (.int 1))) (mCons (mC (.int 3)) mNil)))))) (mCall 4 m__law_draw (mCons (mVar 0) (mCons (mC (.int 3)) (mCons (mBin (intOpC mulOk fun i j => .int (i * j)) (mC (.int 2)) (mVarT 7)) (mCons (mVar 6) mNil)))))))
      (mRetO 3))))))))))
def m__law_firing : List D → Option D := callM 2 9 b__law_firing
theorem fn__law_firing {f : Addr} {fd : FuncData} (F : FunD K "_law_firing" "_law_firing" (defArgs s__law_firing) (defBody s__law_firing) (defScope s__law_firing) [] [] f fd) (c__law_menu : Cal P w K mg base "_law_menu" 1 1 m__law_menu) (c__law_draw : Cal P w K mg base "_law_draw" 2 4 m__law_draw) (h_range : mg "range" = none) (h_len : mg "len" = none) : FnOk P w K mg base CX0 3 f fd ["script", "long_list"] (spD K 2 m__law_firing) :=
  fn_mk (N := N__law_firing) (m := b__law_firing) F sc__law_firing rfl (fun cdv A outer s H E hr =>
      (dss_cons (ds_set 2 sc__law_firing.nd (de_call c__law_menu (hr.mono (by decide)) (da_cons (de_call c__law_draw (hr.mono (by decide)) (da_cons (de_var 0) (da_cons de_int (da_cons de_int (da_cons de_int da_nil))))) da_nil)))
      (dss_cons (ds_setO 3 sc__law_firing.nd (df_lst da_nil))
      (dss_cons (ds_if (db_not (db_tru (dt_var 1))) (dss_cons (ds_for PassesOwn.never rfl (di_range1 h_range (DE.t (de_call c__law_draw (hr.mono (by decide)) (da_cons (de_var 0) (da_cons de_int (da_cons de_int (da_cons de_int da_nil))))))) (dg_name 7 sc__law_firing.nd) (dss_cons (ds_set 8 sc__law_firing.nd (de_ix (dt_var 2) (DE.t (de_call c__law_draw (hr.mono (by decide)) (da_cons (de_var 0) (da_cons de_int (da_cons (de_var 7) (da_cons (de_len h_len (dt_var 2)) da_nil))))))))
      (dss_cons (ds_if (DW.toB (dw_and (db_cmp (op_eqAll hr) od_eq (dt_var 8) (DE.t de_str)) (dw_and1 (db_cmp (op_eqAll hr) od_eq (DE.t (de_cntS (dt_var 3) (DE.t de_str))) (DE.t de_int))))) (dss_one (ds_set 8 sc__law_firing.nd de_str)) dss_nil)
      (dss_one (ds_app 3 (de_var 8))))))
      (dss_one (ds_retO 3))) dss_nil)
      (dss_cons (ds_set 4 sc__law_firing.nd (de_add (DE.t de_int) (DE.t (de_call c__law_draw (hr.mono (by decide)) (da_cons (de_var 0) (da_cons de_int (da_cons de_int (da_cons de_int da_nil))))))))
      (dss_cons (ds_setLcF 5 (own := [("k", 7)]) rfl sc__law_firing.nd (DI.t (di_range1 h_range (dt_var 4))) (blkOk_by (N := N__law_firing) (sc := defScope s__law_firing) (by decide +kernel)) (by decide) (fun _ _ _ _ _ => (dg_name 7 sc__law_firing.nd)) (fun _ _ _ _ _ => dts_nil) (fun _ _ _ _ _ => (de_ix (dt_var 2) (DE.t (de_call c__law_draw (hr.mono (by decide)) (da_cons (de_var 0) (da_cons de_int (da_cons (de_var 7) (da_cons (de_len h_len (dt_var 2)) da_nil)))))))) (sw_true rfl rfl rfl (by decide +kernel)))
      (dss_cons (ds_set 6 sc__law_firing.nd de_int)
      (dss_cons (ds_if (db_cmp (op_eqAll hr) od_eq (DE.t (de_call c__law_draw (hr.mono (by decide)) (da_cons (de_var 0) (da_cons de_int (da_cons de_int (da_cons de_int da_nil)))))) (DE.t de_int)) (dss_one (ds_set 6 sc__law_firing.nd (de_add (DE.t de_int) (DE.t (de_call c__law_draw (hr.mono (by decide)) (da_cons (de_var 0) (da_cons de_int (da_cons de_int (da_cons de_int da_nil))))))))) dss_nil)
      (dss_cons (ds_for PassesOwn.never rfl (di_range1 h_range (dt_var 6)) (dg_name 7 sc__law_firing.nd) (dss_one (ds_app 3 (de_ix (dt_var 5) (DE.t (de_mod (dt_var 7) (dt_var 4)))))))
      (dss_cons (ds_for PassesOwn.never rfl (di_range1 h_range (DE.t de_int)) (dg_name 7 sc__law_firing.nd) (dss_one (ds_sub 3 (de_ix (DF.t (df_lst (da_cons de_str (da_cons de_str (da_cons de_str da_nil))))) (DE.t (de_call c__law_draw (hr.mono (by decide)) (da_cons (de_var 0) (da_cons de_int (da_cons (de_add (DE.t (de_mul (DE.t de_int) (dt_var 7))) (DE.t de_int)) (da_cons de_int da_nil))))))) (de_call c__law_draw (hr.mono (by decide)) (da_cons (de_var 0) (da_cons de_int (da_cons (de_mul (DE.t de_int) (dt_var 7)) (da_cons (de_var 6) da_nil))))))))
      (dss_one (ds_retO 3))))))))))))
theorem bd__law_firing (kV doc pm : Value) (an : Option Addr) (cdv ct : Value) (us : List Value) (hl : us.length = ["script", "long_list"].length) : bindArgs (PySem.W.fnOf "_law_firing" "_law_firing" (defArgs s__law_firing) (defBody s__law_firing) (defScope s__law_firing) .none kV doc pm an cdv ct) ⟨us, []⟩ = pure ((["script", "long_list"] : List Str).zip us) := match us, hl with | [_, _], _ => rfl
theorem cal__law_firing (F : Stands K mg "_law_firing" s__law_firing) (c__law_menu : Cal P w K mg base "_law_menu" 1 1 m__law_menu) (c__law_draw : Cal P w K mg base "_law_draw" 2 4 m__law_draw) (h_range : mg "range" = none) (h_len : mg "len" = none) : Cal P w K mg base "_law_firing" 3 2 m__law_firing :=
  cal_of F bd__law_firing fun F => fn__law_firing F c__law_menu c__law_draw h_range h_len

abbrev s__law_reach : Stmt := topS 13
abbrev N__law_reach : List Str := ["script", "long_list", "reach"]
theorem sc__law_reach : FnScope N__law_reach ["script", "long_list"] (defScope s__law_reach) := ⟨rfl, rfl, rfl, by decide +kernel, rfl, by decide +kernel, by decide +kernel⟩
def b__law_reach : En → Option Out :=
      (mSeq (mSet 2 (mCall 4 m__law_draw (mCons (mVar 0) (mCons (mC (.int 0)) (mCons (mC (.int 3)) (mCons (mC (.int 7)) mNil))))))
      (mSeq (mIfS (fun E => ((mBin eqD (mVarT 2) (mC (.int 5))) E).bind blOf) (mRet (mC (.int 11))) mNext)
      (mSeq (mIfS (mAnd (fun E => ((mBin eqD (mVarT 2) (mC (.int 6))) E).bind blOf) (fun E => ((mVarT 1) E).bind truD)) (mRet (mBin addD (mC (.int 5)) (mCall 4 m__law_draw (mCons (mVar 0) (mCons (mC (.int 0)) (mCons (mC (.int 7)) (mCons (mC (.int 36)) mNil))))))) mNext)
      (mSeq (mIfS (fun E => ((mBin eqD (mVarT 2) (mC (.int 6))) E).bind blOf) (mRet (mC (.int 1000000000))) mNext)
      (mRet (mVarT 2))))))
def m__law_reach : List D → Option D := callM 2 3 b__law_reach
theorem fn__law_reach {f : Addr} {fd : FuncData} (F : FunD K "_law_reach" "_law_reach" (defArgs s__law_reach) (defBody s__law_reach) (defScope s__law_reach) [] [] f fd) (c__law_draw : Cal P w K mg base "_law_draw" 2 4 m__law_draw) : FnOk P w K mg base CX0 3 f fd ["script", "long_list"] (spD K 2 m__law_reach) :=
  fn_mk (N := N__law_reach) (m := b__law_reach) F sc__law_reach rfl (fun cdv A outer s H E hr =>
      (dss_cons (ds_set 2 sc__law_reach.nd (de_call c__law_draw (hr.mono (by decide)) (da_cons (de_var 0) (da_cons de_int (da_cons de_int (da_cons de_int da_nil))))))
      (dss_cons (ds_if (db_cmp (op_eqAll hr) od_eq (dt_var 2) (DE.t de_int)) (dss_one (ds_ret (DE.t de_int))) dss_nil)
      (dss_cons (ds_if (DW.toB (dw_and (db_cmp (op_eqAll hr) od_eq (dt_var 2) (DE.t de_int)) (dw_and1 (db_tru (dt_var 1))))) (dss_one (ds_ret (DE.t (de_add (DE.t de_int) (DE.t (de_call c__law_draw (hr.mono (by decide)) (da_cons (de_var 0) (da_cons de_int (da_cons de_int (da_cons de_int da_nil)))))))))) dss_nil)
      (dss_cons (ds_if (db_cmp (op_eqAll hr) od_eq (dt_var 2) (DE.t de_int)) (dss_one (ds_ret (DE.t de_int))) dss_nil)
      (dss_one (ds_ret (dt_var 2))))))))
theorem bd__law_reach (kV doc pm : Value) (an : Option Addr) (cdv ct : Value) (us : List Value) (hl : us.length = ["script", "long_list"].length) : bindArgs (PySem.W.fnOf "_law_reach" "_law_reach" (defArgs s__law_reach) (defBody s__law_reach) (defScope s__law_reach) .none kV doc pm an cdv ct) ⟨us, []⟩ = pure ((["script", "long_list"] : List Str).zip us) := match us, hl with | [_, _], _ => rfl
theorem cal__law_reach (F : Stands K mg "_law_reach" s__law_reach) (c__law_draw : Cal P w K mg base "_law_draw" 2 4 m__law_draw) : Cal P w K mg base "_law_reach" 3 2 m__law_reach :=
  cal_of F bd__law_reach fun F => fn__law_reach F c__law_draw

abbrev s__law_silences : Stmt := topS 14
abbrev N__law_silences : List Str := ["script", "size", "silences", "k", "start"]
theorem sc__law_silences : FnScope N__law_silences ["script", "size"] (defScope s__law_silences) := ⟨rfl, rfl, rfl, by decide +kernel, rfl, by decide +kernel, by decide +kernel⟩
def b__law_silences : En → Option Out :=
      (mSeq (mSetO 2 (mLst mNil))
      (mSeq (mFor (fun E => ((mCall 4 m__law_draw (mCons (mVar 0) (mCons (mC (.int 2)) (mCons (mC (.int 0)) (mCons (mC (.int 5)) mNil))))) E).bind rg1) (gM 3) (mSeq (mSet 4 (mBin (intOp fun i j => .int (i - j)) (mCall 4 m__law_draw (mCons (mVar 0) (mCons (mC (.int 2)) (mCons (mBin addD (mBin (intOpC mulOk fun i j => .int (i * j)) (mC (.int 2)) (mVarT 3)) (mC (.int 1))) (mCons (mBin addD (mVarT 1) (mC (.int 9))) mNil))))) (mC (.int 4))))
      (mApp 2 (mTup (mCons (mVar 4) (mCons (mBin addD (mVarT 4) (mCall 4 m__law_draw (mCons (mVar 0) (mCons (mC (.int 2)) (mCons (mBin addD (mBin (intOpC mulOk fun i j => .int (i * j)) (mC (.int 2)) (mVarT 3)) (mC (.int 2))) (mCons (mC (.int 6)) mNil)))))) mNil))))))
      (mRetO 2)))
def m__law_silences : List D → Option D := callM 2 5 b__law_silences
theorem fn__law_silences {f : Addr} {fd : FuncData} (F : FunD K "_law_silences" "_law_silences" (defArgs s__law_silences) (defBody s__law_silences) (defScope s__law_silences) [] [] f fd) (c__law_draw : Cal P w K mg base "_law_draw" 2 4 m__law_draw) (h_range : mg "range" = none) : FnOk P w K mg base CX0 3 f fd ["script", "size"] (spD K 2 m__law_silences) :=
  fn_mk (N := N__law_silences) (m := b__law_silences) F sc__law_silences rfl (fun cdv A outer s H E hr =>
      (dss_cons (ds_setO 2 sc__law_silences.nd (df_lst da_nil))
      (dss_cons (ds_for PassesOwn.never rfl (di_range1 h_range (DE.t (de_call c__law_draw (hr.mono (by decide)) (da_cons (de_var 0) (da_cons de_int (da_cons de_int (da_cons de_int da_nil))))))) (dg_name 3 sc__law_silences.nd) (dss_cons (ds_set 4 sc__law_silences.nd (de_sub (DE.t (de_call c__law_draw (hr.mono (by decide)) (da_cons (de_var 0) (da_cons de_int (da_cons (de_add (DE.t (de_mul (DE.t de_int) (dt_var 3))) (DE.t de_int)) (da_cons (de_add (dt_var 1) (DE.t de_int)) da_nil)))))) (DE.t de_int)))
      (dss_one (ds_app 2 (de_tup (da_cons (de_var 4) (da_cons (de_add (dt_var 4) (DE.t (de_call c__law_draw (hr.mono (by decide)) (da_cons (de_var 0) (da_cons de_int (da_cons (de_add (DE.t (de_mul (DE.t de_int) (dt_var 3))) (DE.t de_int)) (da_cons de_int da_nil))))))) da_nil)))))))
      (dss_one (ds_retO 2)))))
theorem bd__law_silences (kV doc pm : Value) (an : Option Addr) (cdv ct : Value) (us : List Value) (hl : us.length = ["script", "size"].length) : bindArgs (PySem.W.fnOf "_law_silences" "_law_silences" (defArgs s__law_silences) (defBody s__law_silences) (defScope s__law_silences) .none kV doc pm an cdv ct) ⟨us, []⟩ = pure ((["script", "size"] : List Str).zip us) := match us, hl with | [_, _], _ => rfl
theorem cal__law_silences (F : Stands K mg "_law_silences" s__law_silences) (c__law_draw : Cal P w K mg base "_law_draw" 2 4 m__law_draw) (h_range : mg "range" = none) : Cal P w K mg base "_law_silences" 3 2 m__law_silences :=
  cal_of F bd__law_silences fun F => fn__law_silences F c__law_draw h_range

abbrev s__law_quiet : Stmt := topS 15
abbrev N__law_quiet : List Str := ["firing", "silences", "words", "tick", "word", "pair"]
theorem sc__law_quiet : FnScope N__law_quiet ["firing", "silences"] (defScope s__law_quiet) := ⟨rfl, rfl, rfl, by decide +kernel, rfl, by decide +kernel, by decide +kernel⟩
def b__law_quiet : En → Option Out :=
      (mSeq (mSetO 2 (mLst mNil))
      (mSeq (mFor (fun E => ((mUn lenD (mVarT 0)) E).bind rg1) (gM 3) (mSeq (mSet 4 (mBin ixD (mVarT 0) (mVarT 3)))
      (mSeq (mFor (fun E => ((mVar 1) E).bind lstOf) (gM 5) (mIfS (fun E => ((mChain (intOp fun i j => .bl (decide (i ≤ j))) (intOp fun i j => .bl (decide (i ≤ j))) (mBin ixD (mVarT 5) (mC (.int 0))) (mVarT 3) (mBin ixD (mVarT 5) (mC (.int 1)))) E).bind blOf) (mSet 4 (mC (.str "no"))) mNext))
      (mApp 2 (mVar 4)))))
      (mRetO 2)))
def m__law_quiet : List D → Option D := callM 2 6 b__law_quiet
theorem fn__law_quiet {f : Addr} {fd : FuncData} (F : FunD K "_law_quiet" "_law_quiet" (defArgs s__law_quiet) (defBody s__law_quiet) (defScope s__law_quiet) [] [] f fd) (h_len : mg "len" = none) (h_range : mg "range" = none) : FnOk P w K mg base CX0 1 f fd ["firing", "silences"] (spD K 2 m__law_quiet) :=
  fn_mk (N := N__law_quiet) (m := b__law_quiet) F sc__law_quiet rfl (fun cdv A outer s H E hr =>
      (dss_cons (ds_setO 2 sc__law_quiet.nd (df_lst da_nil))
      (dss_cons (ds_for PassesOwn.never rfl (di_range1 h_range (DE.t (de_len h_len (dt_var 0)))) (dg_name 3 sc__law_quiet.nd) (dss_cons (ds_set 4 sc__law_quiet.nd (de_ix (dt_var 0) (dt_var 3)))
      (dss_cons (ds_for PassesOwn.never rfl (di_list (de_var 1)) (dg_name 5 sc__law_quiet.nd) (dss_one (ds_if (db_chain op_le od_le op_le od_le (DE.t (de_ix (dt_var 5) (DE.t de_int))) (dt_var 3) (DE.t (de_ix (dt_var 5) (DE.t de_int)))) (dss_one (ds_set 4 sc__law_quiet.nd de_str)) dss_nil)))
      (dss_one (ds_app 2 (de_var 4))))))
      (dss_one (ds_retO 2)))))
theorem bd__law_quiet (kV doc pm : Value) (an : Option Addr) (cdv ct : Value) (us : List Value) (hl : us.length = ["firing", "silences"].length) : bindArgs (PySem.W.fnOf "_law_quiet" "_law_quiet" (defArgs s__law_quiet) (defBody s__law_quiet) (defScope s__law_quiet) .none kV doc pm an cdv ct) ⟨us, []⟩ = pure ((["firing", "silences"] : List Str).zip us) := match us, hl with | [_, _], _ => rfl
theorem cal__law_quiet (F : Stands K mg "_law_quiet" s__law_quiet) (h_len : mg "len" = none) (h_range : mg "range" = none) : Cal P w K mg base "_law_quiet" 1 2 m__law_quiet :=
  cal_of F bd__law_quiet fun F => fn__law_quiet F h_len h_range

abbrev s__law_settlements : Stmt := topS 16
abbrev N__law_settlements : List Str := ["firing", "settled", "word", "longer", "fires"]
theorem sc__law_settlements : FnScope N__law_settlements ["firing"] (defScope s__law_settlements) := ⟨rfl, rfl, rfl, by decide +kernel, rfl, by decide +kernel, by decide +kernel⟩
def b__law_settlements : En → Option Out :=
      (mSeq (mSet 1 (mList (mLst (mCons (mList (mLst mNil)) mNil))))
      (mSeq (mFor (fun E => ((mVar 0) E).bind lstOf) (gM 2) (mSeq (mSetO 3 (mLst mNil))
      (mSeq (mFor (fun E => ((mList (fun E => ((mVarT 1) E).bind seqOf)) E).bind lstOf) (gM 4) (mSeq (mIfS (fun E => ((mBin neD (mVarT 2) (mC (.str "no"))) E).bind blOf) (mApp 3 (mList (fun E => ((mVarT 4) E).bind fun x => ((mList (mLst (mCons (mC (.bl true)) mNil))) E).bind fun y => catD x y))) mNext)
      (mIfS (fun E => ((mBin neD (mVarT 2) (mC (.str "yes"))) E).bind blOf) (mApp 3 (mList (fun E => ((mVarT 4) E).bind fun x => ((mList (mLst (mCons (mC (.bl false)) mNil))) E).bind fun y => catD x y))) mNext)))
      (mFrz 3 (mSet 1 (mVar 3))))))
      (mRet (mVarT 1))))
def m__law_settlements : List D → Option D := callM 1 5 b__law_settlements
theorem fn__law_settlements {f : Addr} {fd : FuncData} (F : FunD K "_law_settlements" "_law_settlements" (defArgs s__law_settlements) (defBody s__law_settlements) (defScope s__law_settlements) [] [] f fd) (h_list : mg "list" = none) : FnOk P w K mg base CX0 1 f fd ["firing"] (spD K 1 m__law_settlements) :=
  fn_mk (N := N__law_settlements) (m := b__law_settlements) F sc__law_settlements rfl (fun cdv A outer s H E hr =>
      (dss_cons (ds_set 1 sc__law_settlements.nd (DF.toE (df_lst (da_cons (DF.toE (df_lst da_nil)) da_nil))))
      (dss_cons (ds_for PassesOwn.never rfl (di_list (de_var 0)) (dg_name 2 sc__law_settlements.nd) (dss_cons (ds_setO 3 sc__law_settlements.nd (df_lst da_nil))
      (dss_cons (ds_for PassesOwn.never rfl (di_list (DF.toE (df_list h_list (dt_var 1)))) (dg_name 4 sc__law_settlements.nd) (dss_cons (ds_if (db_cmp (op_neAll hr) od_ne (dt_var 2) (DE.t de_str)) (dss_one (ds_app 3 (DF.toE (df_add (dt_var 4) (DF.t (df_lst (da_cons de_bl da_nil))))))) dss_nil)
      (dss_one (ds_if (db_cmp (op_neAll hr) od_ne (dt_var 2) (DE.t de_str)) (dss_one (ds_app 3 (DF.toE (df_add (dt_var 4) (DF.t (df_lst (da_cons de_bl da_nil))))))) dss_nil))))
      (dss_one (ds_frz 3 (ds_set 1 sc__law_settlements.nd (de_var 3)))))))
      (dss_one (ds_ret (dt_var 1))))))
theorem bd__law_settlements (kV doc pm : Value) (an : Option Addr) (cdv ct : Value) (us : List Value) (hl : us.length = ["firing"].length) : bindArgs (PySem.W.fnOf "_law_settlements" "_law_settlements" (defArgs s__law_settlements) (defBody s__law_settlements) (defScope s__law_settlements) .none kV doc pm an cdv ct) ⟨us, []⟩ = pure ((["firing"] : List Str).zip us) := match us, hl with | [_], _ => rfl
theorem cal__law_settlements (F : Stands K mg "_law_settlements" s__law_settlements) (h_list : mg "list" = none) : Cal P w K mg base "_law_settlements" 1 1 m__law_settlements :=
  cal_of F bd__law_settlements fun F => fn__law_settlements F h_list

abbrev s__law_marks : Stmt := topS 17
abbrev N__law_marks : List Str := ["fires", "reach", "marks", "newest", "number", "tick"]
theorem sc__law_marks : FnScope N__law_marks ["fires", "reach"] (defScope s__law_marks) := ⟨rfl, rfl, rfl, by decide +kernel, rfl, by decide +kernel, by decide +kernel⟩
def b__law_marks : En → Option Out :=
      (mSeq (mSetO 2 (mLst mNil))
      (mSeq (mSet 3 (mBin (intOp fun i j => .int (i - j)) (mUn negD (mVarT 1)) (mC (.int 2))))
      (mSeq (mSet 4 (mUn negD (mC (.int 1))))
      (mSeq (mFor (fun E => ((mUn lenD (mVarT 0)) E).bind rg1) (gM 5) (mIfS (mNot (fun E => ((mBin ixD (mVarT 0) (mVarT 5)) E).bind truD)) (mApp 2 (mUn negD (mC (.int 1)))) (mSeq (mIfS (fun E => ((mBin (intOp fun i j => .bl (decide (j < i))) (mBin (intOp fun i j => .int (i - j)) (mBin (intOp fun i j => .int (i - j)) (mVarT 5) (mVarT 3)) (mC (.int 1))) (mVarT 1)) E).bind blOf) (mSet 4 (mBin addD (mVarT 4) (mC (.int 1)))) mNext)
      (mSeq (mSet 3 (mVar 5))
      (mApp 2 (mVar 4))))))
      (mRetO 2)))))
def m__law_marks : List D → Option D := callM 2 6 b__law_marks
theorem fn__law_marks {f : Addr} {fd : FuncData} (F : FunD K "_law_marks" "_law_marks" (defArgs s__law_marks) (defBody s__law_marks) (defScope s__law_marks) [] [] f fd) (h_len : mg "len" = none) (h_range : mg "range" = none) : FnOk P w K mg base CX0 1 f fd ["fires", "reach"] (spD K 2 m__law_marks) :=
  fn_mk (N := N__law_marks) (m := b__law_marks) F sc__law_marks rfl (fun cdv A outer s H E hr =>
      (dss_cons (ds_setO 2 sc__law_marks.nd (df_lst da_nil))
      (dss_cons (ds_set 3 sc__law_marks.nd (de_sub (DE.t (de_neg (dt_var 1))) (DE.t de_int)))
      (dss_cons (ds_set 4 sc__law_marks.nd (de_neg (DE.t de_int)))
      (dss_cons (ds_for PassesOwn.never rfl (di_range1 h_range (DE.t (de_len h_len (dt_var 0)))) (dg_name 5 sc__law_marks.nd) (dss_one (ds_if (db_not (db_tru (DE.t (de_ix (dt_var 0) (dt_var 5))))) (dss_one (ds_app 2 (de_neg (DE.t de_int)))) (dss_cons (ds_if (db_cmp op_gt od_gt (DE.t (de_sub (DE.t (de_sub (dt_var 5) (dt_var 3))) (DE.t de_int))) (dt_var 1)) (dss_one (ds_set 4 sc__law_marks.nd (de_add (dt_var 4) (DE.t de_int)))) dss_nil)
      (dss_cons (ds_set 3 sc__law_marks.nd (de_var 5))
      (dss_one (ds_app 2 (de_var 4))))))))
      (dss_one (ds_retO 2)))))))
theorem bd__law_marks (kV doc pm : Value) (an : Option Addr) (cdv ct : Value) (us : List Value) (hl : us.length = ["fires", "reach"].length) : bindArgs (PySem.W.fnOf "_law_marks" "_law_marks" (defArgs s__law_marks) (defBody s__law_marks) (defScope s__law_marks) .none kV doc pm an cdv ct) ⟨us, []⟩ = pure ((["fires", "reach"] : List Str).zip us) := match us, hl with | [_, _], _ => rfl
theorem cal__law_marks (F : Stands K mg "_law_marks" s__law_marks) (h_len : mg "len" = none) (h_range : mg "range" = none) : Cal P w K mg base "_law_marks" 1 2 m__law_marks :=
  cal_of F bd__law_marks fun F => fn__law_marks F h_len h_range

abbrev s__law_spans : Stmt := topS 18
abbrev N__law_spans : List Str := ["marks", "spans", "tick"]
theorem sc__law_spans : FnScope N__law_spans ["marks"] (defScope s__law_spans) := ⟨rfl, rfl, rfl, by decide +kernel, rfl, by decide +kernel, by decide +kernel⟩
def b__law_spans : En → Option Out :=
      (mSeq (mSetO 1 (mLst mNil))
      (mSeq (mFor (fun E => ((mUn lenD (mVarT 0)) E).bind rg1) (gM 2) (mIfS (fun E => ((mBin eqD (mBin ixD (mVarT 0) (mVarT 2)) (mUn lenD (mVarT 1))) E).bind blOf) (mApp 1 (mTup (mCons (mVar 2) (mCons (mVar 2) mNil)))) (mIfS (fun E => ((mBin (intOp fun i j => .bl (decide (j ≤ i))) (mBin ixD (mVarT 0) (mVarT 2)) (mC (.int 0))) E).bind blOf) (mSub 1 (mTup (mCons (mBin ixD (mBin ixD (mVarT 1) (mBin (intOp fun i j => .int (i - j)) (mUn lenD (mVarT 1)) (mC (.int 1)))) (mC (.int 0))) (mCons (mVar 2) mNil))) (mBin (intOp fun i j => .int (i - j)) (mUn lenD (mVarT 1)) (mC (.int 1)))) mNext)))
      (mRetO 1)))
def m__law_spans : List D → Option D := callM 1 3 b__law_spans
theorem fn__law_spans {f : Addr} {fd : FuncData} (F : FunD K "_law_spans" "_law_spans" (defArgs s__law_spans) (defBody s__law_spans) (defScope s__law_spans) [] [] f fd) (h_len : mg "len" = none) (h_range : mg "range" = none) : FnOk P w K mg base CX0 1 f fd ["marks"] (spD K 1 m__law_spans) :=
  fn_mk (N := N__law_spans) (m := b__law_spans) F sc__law_spans rfl (fun cdv A outer s H E hr =>
      (dss_cons (ds_setO 1 sc__law_spans.nd (df_lst da_nil))
      (dss_cons (ds_for PassesOwn.never rfl (di_range1 h_range (DE.t (de_len h_len (dt_var 0)))) (dg_name 2 sc__law_spans.nd) (dss_one (ds_if (db_cmp (op_eqAll hr) od_eq (DE.t (de_ix (dt_var 0) (dt_var 2))) (DE.t (de_len h_len (dt_var 1)))) (dss_one (ds_app 1 (de_tup (da_cons (de_var 2) (da_cons (de_var 2) da_nil))))) (dss_one (ds_if (db_cmp op_ge od_ge (DE.t (de_ix (dt_var 0) (dt_var 2))) (DE.t de_int)) (dss_one (ds_sub 1 (de_tup (da_cons (de_ix (DE.t (de_ix (dt_var 1) (DE.t (de_sub (DE.t (de_len h_len (dt_var 1))) (DE.t de_int))))) (DE.t de_int)) (da_cons (de_var 2) da_nil))) (de_sub (DE.t (de_len h_len (dt_var 1))) (DE.t de_int)))) dss_nil)))))
      (dss_one (ds_retO 1)))))
theorem bd__law_spans (kV doc pm : Value) (an : Option Addr) (cdv ct : Value) (us : List Value) (hl : us.length = ["marks"].length) : bindArgs (PySem.W.fnOf "_law_spans" "_law_spans" (defArgs s__law_spans) (defBody s__law_spans) (defScope s__law_spans) .none kV doc pm an cdv ct) ⟨us, []⟩ = pure ((["marks"] : List Str).zip us) := match us, hl with | [_], _ => rfl
theorem cal__law_spans (F : Stands K mg "_law_spans" s__law_spans) (h_len : mg "len" = none) (h_range : mg "range" = none) : Cal P w K mg base "_law_spans" 1 1 m__law_spans :=
  cal_of F bd__law_spans fun F => fn__law_spans F h_len h_range

abbrev s__law_range : Stmt := topS 19
abbrev N__law_range : List Str := ["firing", "reach", "low", "top", "word", "low_fired", "top_fired", "d"]
theorem sc__law_range : FnScope N__law_range ["firing", "reach"] (defScope s__law_range) := ⟨rfl, rfl, rfl, by decide +kernel, rfl, by decide +kernel, by decide +kernel⟩
def b__law_range : En → Option Out :=
      (mSeq (mSetO 2 (fun E => ((mList (fun E => ((mList (mLst (mCons (mC (.int 1000)) mNil))) E).bind fun x => ((mBin addD (mVarT 1) (mC (.int 1))) E).bind fun y => repD x y)) E).bind fun x => ((mList (mLst (mCons (mC (.int 0)) mNil))) E).bind fun y => catD x y))
      (mSeq (mSetO 3 (fun E => ((mList (fun E => ((mList (mLst (mCons (mUn negD (mC (.int 1000))) mNil))) E).bind fun x => ((mBin addD (mVarT 1) (mC (.int 1))) E).bind fun y => repD x y)) E).bind fun x => ((mList (mLst (mCons (mC (.int 0)) mNil))) E).bind fun y => catD x y))
      (mSeq (mFor (fun E => ((mVar 0) E).bind lstOf) (gM 4) (mSeq (mSet 5 (mUn min1D (mList (mComp [7] (fun E => ((mBin addD (mVarT 1) (mC (.int 2))) E).bind rg1) (gM 7) mYes (mBin addD (mBin ixD (mVarT 2) (mVarT 7)) (mUn intD (mBin eqD (mVarT 7) (mBin addD (mVarT 1) (mC (.int 1))))))))))
      (mSeq (mSet 6 (mUn max1D (mList (mComp [7] (fun E => ((mBin addD (mVarT 1) (mC (.int 2))) E).bind rg1) (gM 7) mYes (mBin addD (mBin ixD (mVarT 3) (mVarT 7)) (mUn intD (mBin eqD (mVarT 7) (mBin addD (mVarT 1) (mC (.int 1))))))))))
      (mSeq (mSetO 2 (fun E => ((mList (fun E => ((mList (mLst (mCons (mC (.int 1000)) mNil))) E).bind fun x => ((mList (fun E => (((mVarT 2) E).bind lstOf).bind fun ds => ((fun _ => some none) E).bind fun l => ((fun E => ((mVarT 1) E).bind inOf) E).map fun h => cutD ds l h)) E).bind fun y => catD x y)) E).bind fun x => ((mList (mLst (mCons (mBin minD (mBin ixD (mVarT 2) (mVarT 1)) (mBin ixD (mVarT 2) (mBin addD (mVarT 1) (mC (.int 1))))) mNil))) E).bind fun y => catD x y))
      (mSeq (mSetO 3 (fun E => ((mList (fun E => ((mList (mLst (mCons (mUn negD (mC (.int 1000))) mNil))) E).bind fun x => ((mList (fun E => (((mVarT 3) E).bind lstOf).bind fun ds => ((fun _ => some none) E).bind fun l => ((fun E => ((mVarT 1) E).bind inOf) E).map fun h => cutD ds l h)) E).bind fun y => catD x y)) E).bind fun x => ((mList (mLst (mCons (mBin maxD (mBin ixD (mVarT 3) (mVarT 1)) (mBin ixD (mVarT 3) (mBin addD (mVarT 1) (mC (.int 1))))) mNil))) E).bind fun y => catD x y))
      (mSeq (mIfS (fun E => ((mBin eqD (mVarT 4) (mC (.str "yes"))) E).bind blOf) (mSeq (mSetO 2 (fun E => ((mList (mLst (mCons (mC (.int 1000)) mNil))) E).bind fun x => ((mBin addD (mVarT 1) (mC (.int 2))) E).bind fun y => repD x y))
      (mSetO 3 (fun E => ((mList (mLst (mCons (mUn negD (mC (.int 1000))) mNil))) E).bind fun x => ((mBin addD (mVarT 1) (mC (.int 2))) E).bind fun y => repD x y))) mNext)
      (mIfS (fun E => ((mBin neD (mVarT 4) (mC (.str "no"))) E).bind blOf) (mSeq (mSub 2 (mVar 5) (mC (.int 0)))
      (mSub 3 (mVar 6) (mC (.int 0)))) mNext)))))))
      (mRet (mTup (mCons (mUn min1D (mVarT 2)) (mCons (mUn max1D (mVarT 3)) mNil)))))))
def m__law_range : List D → Option D := callM 2 8 b__law_range
theorem fn__law_range {f : Addr} {fd : FuncData} (F : FunD K "_law_range" "_law_range" (defArgs s__law_range) (defBody s__law_range) (defScope s__law_range) [] [] f fd) (h_range : mg "range" = none) (h_int : mg "int" = none) (h_min : mg "min" = none) (h_max : mg "max" = none) : FnOk P w K mg base CX0 1 f fd ["firing", "reach"] (spD K 2 m__law_range) :=
  fn_mk (N := N__law_range) (m := b__law_range) F sc__law_range rfl (fun cdv A outer s H E hr =>
      (dss_cons (ds_setO 2 sc__law_range.nd (df_add (DF.t (df_rep (DF.t (df_lst (da_cons de_int da_nil))) (DE.t (de_add (dt_var 1) (DE.t de_int))))) (DF.t (df_lst (da_cons de_int da_nil)))))
      (dss_cons (ds_setO 3 sc__law_range.nd (df_add (DF.t (df_rep (DF.t (df_lst (da_cons (de_neg (DE.t de_int)) da_nil))) (DE.t (de_add (dt_var 1) (DE.t de_int))))) (DF.t (df_lst (da_cons de_int da_nil)))))
      (dss_cons (ds_for PassesOwn.never rfl (di_list (de_var 0)) (dg_name 4 sc__law_range.nd) (dss_cons (ds_set 5 sc__law_range.nd (de_min1 rfl h_min (DF.t (df_lc (own := [("d", 7)]) rfl sc__law_range.nd (DI.t (di_range1 h_range (DE.t (de_add (dt_var 1) (DE.t de_int))))) (blkOk_by (N := N__law_range) (sc := defScope s__law_range) (by decide +kernel)) (by decide) (fun _ _ _ _ _ => (dg_name 7 sc__law_range.nd)) (fun _ _ _ _ _ => dts_nil) (fun _ _ _ _ _ => (de_add (DE.t (de_ix (dt_var 2) (dt_var 7))) (DE.t (de_int1 h_int (DE.t (de_cmp (op_eqAll hr) od_eq (dt_var 7) (DE.t (de_add (dt_var 1) (DE.t de_int)))))))))))))
      (dss_cons (ds_set 6 sc__law_range.nd (de_max1 rfl h_max (DF.t (df_lc (own := [("d", 7)]) rfl sc__law_range.nd (DI.t (di_range1 h_range (DE.t (de_add (dt_var 1) (DE.t de_int))))) (blkOk_by (N := N__law_range) (sc := defScope s__law_range) (by decide +kernel)) (by decide) (fun _ _ _ _ _ => (dg_name 7 sc__law_range.nd)) (fun _ _ _ _ _ => dts_nil) (fun _ _ _ _ _ => (de_add (DE.t (de_ix (dt_var 3) (dt_var 7))) (DE.t (de_int1 h_int (DE.t (de_cmp (op_eqAll hr) od_eq (dt_var 7) (DE.t (de_add (dt_var 1) (DE.t de_int)))))))))))))
      (dss_cons (ds_setO 2 sc__law_range.nd (df_add (DF.t (df_add (DF.t (df_lst (da_cons de_int da_nil))) (DF.t (df_slice (dt_var 2) do_none (do_some (dt_var 1)))))) (DF.t (df_lst (da_cons (de_min2 rfl h_min (DE.t (de_ix (dt_var 2) (dt_var 1))) (DE.t (de_ix (dt_var 2) (DE.t (de_add (dt_var 1) (DE.t de_int)))))) da_nil)))))
      (dss_cons (ds_setO 3 sc__law_range.nd (df_add (DF.t (df_add (DF.t (df_lst (da_cons (de_neg (DE.t de_int)) da_nil))) (DF.t (df_slice (dt_var 3) do_none (do_some (dt_var 1)))))) (DF.t (df_lst (da_cons (de_max2 rfl h_max (DE.t (de_ix (dt_var 3) (dt_var 1))) (DE.t (de_ix (dt_var 3) (DE.t (de_add (dt_var 1) (DE.t de_int)))))) da_nil)))))
      (dss_cons (ds_if (db_cmp (op_eqAll hr) od_eq (dt_var 4) (DE.t de_str)) (dss_cons (ds_setO 2 sc__law_range.nd (df_rep (DF.t (df_lst (da_cons de_int da_nil))) (DE.t (de_add (dt_var 1) (DE.t de_int)))))
      (dss_one (ds_setO 3 sc__law_range.nd (df_rep (DF.t (df_lst (da_cons (de_neg (DE.t de_int)) da_nil))) (DE.t (de_add (dt_var 1) (DE.t de_int))))))) dss_nil)
      (dss_one (ds_if (db_cmp (op_neAll hr) od_ne (dt_var 4) (DE.t de_str)) (dss_cons (ds_sub 2 (de_var 5) de_int)
      (dss_one (ds_sub 3 (de_var 6) de_int))) dss_nil))))))))
      (dss_one (ds_ret (DE.t (de_tup (da_cons (de_min1 rfl h_min (dt_var 2)) (da_cons (de_max1 rfl h_max (dt_var 3)) da_nil))))))))))
theorem bd__law_range (kV doc pm : Value) (an : Option Addr) (cdv ct : Value) (us : List Value) (hl : us.length = ["firing", "reach"].length) : bindArgs (PySem.W.fnOf "_law_range" "_law_range" (defArgs s__law_range) (defBody s__law_range) (defScope s__law_range) .none kV doc pm an cdv ct) ⟨us, []⟩ = pure ((["firing", "reach"] : List Str).zip us) := match us, hl with | [_, _], _ => rfl
theorem cal__law_range (F : Stands K mg "_law_range" s__law_range) (h_range : mg "range" = none) (h_int : mg "int" = none) (h_min : mg "min" = none) (h_max : mg "max" = none) : Cal P w K mg base "_law_range" 1 2 m__law_range :=
  cal_of F bd__law_range fun F => fn__law_range F h_range h_int h_min h_max

abbrev s__law_longest : Stmt := topS 20
abbrev N__law_longest : List Str := ["firing", "words", "start", "stop", "most", "length", "tick"]
theorem sc__law_longest : FnScope N__law_longest ["firing", "words", "start", "stop"] (defScope s__law_longest) := ⟨rfl, rfl, rfl, by decide +kernel, rfl, by decide +kernel, by decide +kernel⟩
def b__law_longest : En → Option Out :=
      (mSeq (mSet 4 (mC (.int 0)))
      (mSeq (mSet 5 (mC (.int 0)))
      (mSeq (mFor (fun E => ((mVarT 2) E).bind fun x => ((mBin addD (mVarT 3) (mC (.int 1))) E).bind fun y => rg2 x y) (gM 6) (mSeq (mSet 5 (mBin addD (mVarT 5) (mC (.int 1))))
      (mSeq (mIfS (fun E => ((mBin inD (mBin ixD (mVarT 0) (mVarT 6)) (mVarT 1)) E).bind blOf) (mSet 5 (mC (.int 0))) mNext)
      (mSet 4 (mBin maxD (mVarT 4) (mVarT 5))))))
      (mRet (mVarT 4)))))
def m__law_longest : List D → Option D := callM 4 7 b__law_longest
theorem fn__law_longest {f : Addr} {fd : FuncData} (F : FunD K "_law_longest" "_law_longest" (defArgs s__law_longest) (defBody s__law_longest) (defScope s__law_longest) [] [] f fd) (h_range : mg "range" = none) (h_max : mg "max" = none) : FnOk P w K mg base CX0 1 f fd ["firing", "words", "start", "stop"] (spD K 4 m__law_longest) :=
  fn_mk (N := N__law_longest) (m := b__law_longest) F sc__law_longest rfl (fun cdv A outer s H E hr =>
      (dss_cons (ds_set 4 sc__law_longest.nd de_int)
      (dss_cons (ds_set 5 sc__law_longest.nd de_int)
      (dss_cons (ds_for PassesOwn.never rfl (di_range2 h_range (dt_var 2) (DE.t (de_add (dt_var 3) (DE.t de_int)))) (dg_name 6 sc__law_longest.nd) (dss_cons (ds_set 5 sc__law_longest.nd (de_add (dt_var 5) (DE.t de_int)))
      (dss_cons (ds_if (db_cmp op_in_seq od_in (DE.t (de_ix (dt_var 0) (dt_var 6))) (dt_var 1)) (dss_one (ds_set 5 sc__law_longest.nd de_int)) dss_nil)
      (dss_one (ds_set 4 sc__law_longest.nd (de_max2 rfl h_max (dt_var 4) (dt_var 5)))))))
      (dss_one (ds_ret (dt_var 4)))))))
theorem bd__law_longest (kV doc pm : Value) (an : Option Addr) (cdv ct : Value) (us : List Value) (hl : us.length = ["firing", "words", "start", "stop"].length) : bindArgs (PySem.W.fnOf "_law_longest" "_law_longest" (defArgs s__law_longest) (defBody s__law_longest) (defScope s__law_longest) .none kV doc pm an cdv ct) ⟨us, []⟩ = pure ((["firing", "words", "start", "stop"] : List Str).zip us) := match us, hl with | [_, _, _, _], _ => rfl
theorem cal__law_longest (F : Stands K mg "_law_longest" s__law_longest) (h_range : mg "range" = none) (h_max : mg "max" = none) : Cal P w K mg base "_law_longest" 1 4 m__law_longest :=
  cal_of F bd__law_longest fun F => fn__law_longest F h_range h_max

abbrev s__law_far_word : Stmt := topS 21
abbrev N__law_far_word : List Str := ["firing", "start", "stop", "reach", "ends"]
theorem sc__law_far_word : FnScope N__law_far_word ["firing", "start", "stop", "reach"] (defScope s__law_far_word) := ⟨rfl, rfl, rfl, by decide +kernel, rfl, by decide +kernel, by decide +kernel⟩
def b__law_far_word : En → Option Out :=
      (mSeq (mSet 4 (mList (mLst (mCons (mBin ixD (mVarT 0) (mVarT 1)) (mCons (mBin ixD (mVarT 0) (mVarT 2)) mNil)))))
      (mSeq (mIfS (mOr (fun E => ((mBin inD (mC (.str "no")) (mVarT 4)) E).bind blOf) (fun E => ((mBin (intOp fun i j => .bl (decide (j < i))) (mCall 4 m__law_longest (mCons (mVar 0) (mCons (mList (mLst (mCons (mC (.str "yes")) (mCons (mC (.str "open")) mNil)))) (mCons (mVar 1) (mCons (mVar 2) mNil))))) (mVarT 3)) E).bind blOf)) (mRet (mC (.str "no"))) mNext)
      (mSeq (mIfS (mOr (fun E => ((mBin inD (mC (.str "open")) (mVarT 4)) E).bind blOf) (fun E => ((mBin (intOp fun i j => .bl (decide (j < i))) (mCall 4 m__law_longest (mCons (mVar 0) (mCons (mList (mLst (mCons (mC (.str "yes")) mNil))) (mCons (mVar 1) (mCons (mVar 2) mNil))))) (mVarT 3)) E).bind blOf)) (mRet (mC (.str "open"))) mNext)
      (mRet (mC (.str "yes"))))))
def m__law_far_word : List D → Option D := callM 4 5 b__law_far_word
theorem fn__law_far_word {f : Addr} {fd : FuncData} (F : FunD K "_law_far_word" "_law_far_word" (defArgs s__law_far_word) (defBody s__law_far_word) (defScope s__law_far_word) [] [] f fd) (c__law_longest : Cal P w K mg base "_law_longest" 1 4 m__law_longest) : FnOk P w K mg base CX0 2 f fd ["firing", "start", "stop", "reach"] (spD K 4 m__law_far_word) :=
  fn_mk (N := N__law_far_word) (m := b__law_far_word) F sc__law_far_word rfl (fun cdv A outer s H E hr =>
      (dss_cons (ds_set 4 sc__law_far_word.nd (DF.toE (df_lst (da_cons (de_ix (dt_var 0) (dt_var 1)) (da_cons (de_ix (dt_var 0) (dt_var 2)) da_nil)))))
      (dss_cons (ds_if (DW.toB (dw_or (db_cmp op_in_seq od_in (DE.t de_str) (dt_var 4)) (dw_or1 (db_cmp op_gt od_gt (DE.t (de_call c__law_longest (hr.mono (by decide)) (da_cons (de_var 0) (da_cons (DF.toE (df_lst (da_cons de_str (da_cons de_str da_nil)))) (da_cons (de_var 1) (da_cons (de_var 2) da_nil)))))) (dt_var 3))))) (dss_one (ds_ret (DE.t de_str))) dss_nil)
      (dss_cons (ds_if (DW.toB (dw_or (db_cmp op_in_seq od_in (DE.t de_str) (dt_var 4)) (dw_or1 (db_cmp op_gt od_gt (DE.t (de_call c__law_longest (hr.mono (by decide)) (da_cons (de_var 0) (da_cons (DF.toE (df_lst (da_cons de_str da_nil))) (da_cons (de_var 1) (da_cons (de_var 2) da_nil)))))) (dt_var 3))))) (dss_one (ds_ret (DE.t de_str))) dss_nil)
      (dss_one (ds_ret (DE.t de_str)))))))
theorem bd__law_far_word (kV doc pm : Value) (an : Option Addr) (cdv ct : Value) (us : List Value) (hl : us.length = ["firing", "start", "stop", "reach"].length) : bindArgs (PySem.W.fnOf "_law_far_word" "_law_far_word" (defArgs s__law_far_word) (defBody s__law_far_word) (defScope s__law_far_word) .none kV doc pm an cdv ct) ⟨us, []⟩ = pure ((["firing", "start", "stop", "reach"] : List Str).zip us) := match us, hl with | [_, _, _, _], _ => rfl
theorem cal__law_far_word (F : Stands K mg "_law_far_word" s__law_far_word) (c__law_longest : Cal P w K mg base "_law_longest" 1 4 m__law_longest) : Cal P w K mg base "_law_far_word" 2 4 m__law_far_word :=
  cal_of F bd__law_far_word fun F => fn__law_far_word F c__law_longest

abbrev s__law_near_word : Stmt := topS 22
abbrev N__law_near_word : List Str := ["all_marks", "start", "stop", "many", "marks"]
theorem sc__law_near_word : FnScope N__law_near_word ["all_marks", "start", "stop"] (defScope s__law_near_word) := ⟨rfl, rfl, rfl, by decide +kernel, rfl, by decide +kernel, by decide +kernel⟩
def b__law_near_word : En → Option Out :=
      (mSeq (mSet 3 (mUn lenD (mList (mComp [4] (fun E => ((mVarT 0) E).bind lstOf) (gM 4) (mAnd (fun E => ((mBin eqD (mBin ixD (mVarT 4) (mVarT 1)) (mBin ixD (mVarT 4) (mVarT 2))) E).bind blOf) (fun E => ((mBin (intOp fun i j => .bl (decide (j ≤ i))) (mBin ixD (mVarT 4) (mVarT 1)) (mC (.int 0))) E).bind blOf)) (mVar 4)))))
      (mSeq (mIfS (fun E => ((mBin eqD (mVarT 3) (mUn lenD (mVarT 0))) E).bind blOf) (mRet (mC (.str "yes"))) mNext)
      (mSeq (mIfS (fun E => ((mBin eqD (mVarT 3) (mC (.int 0))) E).bind blOf) (mRet (mC (.str "no"))) mNext)
      (mRet (mC (.str "open"))))))
def m__law_near_word : List D → Option D := callM 3 5 b__law_near_word
theorem fn__law_near_word {f : Addr} {fd : FuncData} (F : FunD K "_law_near_word" "_law_near_word" (defArgs s__law_near_word) (defBody s__law_near_word) (defScope s__law_near_word) [] [] f fd) (h_len : mg "len" = none) : FnOk P w K mg base CX0 1 f fd ["all_marks", "start", "stop"] (spD K 3 m__law_near_word) :=
  fn_mk (N := N__law_near_word) (m := b__law_near_word) F sc__law_near_word rfl (fun cdv A outer s H E hr =>
      (dss_cons (ds_set 3 sc__law_near_word.nd (de_len h_len (DF.t (df_lc (own := [("marks", 4)]) rfl sc__law_near_word.nd (dit_list (dt_var 0)) (blkOk_by (N := N__law_near_word) (sc := defScope s__law_near_word) (by decide +kernel)) (by decide) (fun _ _ _ _ _ => (dg_name 4 sc__law_near_word.nd)) (fun _ _ _ _ _ => (dts_one (DW.toB (dw_and (db_cmp (op_eqAll hr) od_eq (DE.t (de_ix (dt_var 4) (dt_var 1))) (DE.t (de_ix (dt_var 4) (dt_var 2)))) (dw_and1 (db_cmp op_ge od_ge (DE.t (de_ix (dt_var 4) (dt_var 1))) (DE.t de_int))))))) (fun _ _ _ _ _ => (de_var 4))))))
      (dss_cons (ds_if (db_cmp (op_eqAll hr) od_eq (dt_var 3) (DE.t (de_len h_len (dt_var 0)))) (dss_one (ds_ret (DE.t de_str))) dss_nil)
      (dss_cons (ds_if (db_cmp (op_eqAll hr) od_eq (dt_var 3) (DE.t de_int)) (dss_one (ds_ret (DE.t de_str))) dss_nil)
      (dss_one (ds_ret (DE.t de_str)))))))
theorem bd__law_near_word (kV doc pm : Value) (an : Option Addr) (cdv ct : Value) (us : List Value) (hl : us.length = ["all_marks", "start", "stop"].length) : bindArgs (PySem.W.fnOf "_law_near_word" "_law_near_word" (defArgs s__law_near_word) (defBody s__law_near_word) (defScope s__law_near_word) .none kV doc pm an cdv ct) ⟨us, []⟩ = pure ((["all_marks", "start", "stop"] : List Str).zip us) := match us, hl with | [_, _, _], _ => rfl
theorem cal__law_near_word (F : Stands K mg "_law_near_word" s__law_near_word) (h_len : mg "len" = none) : Cal P w K mg base "_law_near_word" 1 3 m__law_near_word :=
  cal_of F bd__law_near_word fun F => fn__law_near_word F h_len

abbrev s__law_due : Stmt := topS 23
abbrev N__law_due : List Str := ["script", "firing", "reach", "long_list", "sure", "possible", "words", "all_marks", "numbers", "start", "k", "stop", "fires", "marks", "word"]
theorem sc__law_due : FnScope N__law_due ["script", "firing", "reach", "long_list"] (defScope s__law_due) := ⟨rfl, rfl, rfl, by decide +kernel, rfl, by decide +kernel, by decide +kernel⟩
def b__law_due : En → Option Out :=
      (mSeq (mSet 4 (mCall 1 m__law_spans (mCons (mCall 2 m__law_marks (mCons (mList (mComp [14] (fun E => ((mVarT 1) E).bind lstOf) (gM 14) mYes (mBin eqD (mVarT 14) (mC (.str "yes"))))) (mCons (mVar 2) mNil))) mNil)))
      (mSeq (mSet 5 (mCall 1 m__law_spans (mCons (mCall 2 m__law_marks (mCons (mList (mComp [14] (fun E => ((mVarT 1) E).bind lstOf) (gM 14) mYes (mBin neD (mVarT 14) (mC (.str "no"))))) (mCons (mVar 2) mNil))) mNil)))
      (mSeq (mSetO 6 (mLst mNil))
      (mSeq (mIfS (fun E => ((mVarT 3) E).bind truD) (mSeq (mFor (fun E => ((mC (.int 10)) E).bind rg1) (gM 10) (mSeq (mSet 9 (mCall 4 m__law_draw (mCons (mVar 0) (mCons (mC (.int 4)) (mCons (mBin (intOpC mulOk fun i j => .int (i * j)) (mC (.int 2)) (mVarT 10)) (mCons (mUn lenD (mVarT 1)) mNil))))))
      (mSeq (mSet 11 (mBin addD (mVarT 9) (mCall 4 m__law_draw (mCons (mVar 0) (mCons (mC (.int 4)) (mCons (mBin addD (mBin (intOpC mulOk fun i j => .int (i * j)) (mC (.int 2)) (mVarT 10)) (mC (.int 1))) (mCons (mBin minD (mBin (intOp fun i j => .int (i - j)) (mUn lenD (mVarT 1)) (mVarT 9)) (mBin addD (mC (.int 12)) (mBin (intOpC mulOk fun i j => .int (i * j)) (mC (.int 20)) (mVarT 10)))) mNil)))))))
      (mApp 6 (mTup (mCons (mVar 9) (mCons (mVar 11) (mCons (mCall 4 m__law_far_word (mCons (mVar 1) (mCons (mVar 9) (mCons (mVar 11) (mCons (mVar 2) mNil))))) mNil))))))))
      (mFrz 6 (mRet (mTup (mCons (mVar 4) (mCons (mVar 5) (mCons (mCall 2 m__law_range (mCons (mVar 1) (mCons (mVar 2) mNil))) (mCons (mVar 6) mNil)))))))) mNext)
      (mSeq (mSet 7 (mList (mComp [12] (fun E => ((mCall 1 m__law_settlements (mCons (mVar 1) mNil)) E).bind lstOf) (gM 12) mYes (mCall 2 m__law_marks (mCons (mVar 12) (mCons (mVar 2) mNil))))))
      (mSeq (mSet 8 (mList (mComp [13] (fun E => ((mVarT 7) E).bind lstOf) (gM 13) mYes (mUn lenD (mCall 1 m__law_spans (mCons (mVar 13) mNil))))))
      (mSeq (mFor (fun E => ((mUn lenD (mVarT 1)) E).bind rg1) (gM 9) (mFor (fun E => ((mVarT 9) E).bind fun x => ((mUn lenD (mVarT 1)) E).bind fun y => rg2 x y) (gM 11) (mApp 6 (mTup (mCons (mVar 9) (mCons (mVar 11) (mCons (mCall 3 m__law_near_word (mCons (mVar 7) (mCons (mVar 9) (mCons (mVar 11) mNil)))) mNil)))))))
      (mFrz 6 (mRet (mTup (mCons (mVar 4) (mCons (mVar 5) (mCons (mTup (mCons (mUn min1D (mVarT 8)) (mCons (mUn max1D (mVarT 8)) mNil))) (mCons (mVar 6) mNil))))))))))))))
def m__law_due : List D → Option D := callM 4 15 b__law_due
theorem fn__law_due {f : Addr} {fd : FuncData} (F : FunD K "_law_due" "_law_due" (defArgs s__law_due) (defBody s__law_due) (defScope s__law_due) [] [] f fd) (c__law_spans : Cal P w K mg base "_law_spans" 1 1 m__law_spans) (c__law_marks : Cal P w K mg base "_law_marks" 1 2 m__law_marks) (c__law_draw : Cal P w K mg base "_law_draw" 2 4 m__law_draw) (c__law_far_word : Cal P w K mg base "_law_far_word" 2 4 m__law_far_word) (c__law_range : Cal P w K mg base "_law_range" 1 2 m__law_range) (c__law_settlements : Cal P w K mg base "_law_settlements" 1 1 m__law_settlements) (c__law_near_word : Cal P w K mg base "_law_near_word" 1 3 m__law_near_word) (h_range : mg "range" = none) (h_len : mg "len" = none) (h_min : mg "min" = none) (h_max : mg "max" = none) : FnOk P w K mg base CX0 3 f fd ["script", "firing", "reach", "long_list"] (spD K 4 m__law_due) :=
  fn_mk (N := N__law_due) (m := b__law_due) F sc__law_due rfl (fun cdv A outer s H E hr =>
      (dss_cons (ds_set 4 sc__law_due.nd (de_call c__law_spans (hr.mono (by decide)) (da_cons (de_call c__law_marks (hr.mono (by decide)) (da_cons (DF.toE (df_lc (own := [("word", 14)]) rfl sc__law_due.nd (dit_list (dt_var 1)) (blkOk_by (N := N__law_due) (sc := defScope s__law_due) (by decide +kernel)) (by decide) (fun _ _ _ _ _ => (dg_name 14 sc__law_due.nd)) (fun _ _ _ _ _ => dts_nil) (fun _ _ _ _ _ => (de_cmp (op_eqAll hr) od_eq (dt_var 14) (DE.t de_str))))) (da_cons (de_var 2) da_nil))) da_nil)))
      (dss_cons (ds_set 5 sc__law_due.nd (de_call c__law_spans (hr.mono (by decide)) (da_cons (de_call c__law_marks (hr.mono (by decide)) (da_cons (DF.toE (df_lc (own := [("word", 14)]) rfl sc__law_due.nd (dit_list (dt_var 1)) (blkOk_by (N := N__law_due) (sc := defScope s__law_due) (by decide +kernel)) (by decide) (fun _ _ _ _ _ => (dg_name 14 sc__law_due.nd)) (fun _ _ _ _ _ => dts_nil) (fun _ _ _ _ _ => (de_cmp (op_neAll hr) od_ne (dt_var 14) (DE.t de_str))))) (da_cons (de_var 2) da_nil))) da_nil)))
      (dss_cons (ds_setO 6 sc__law_due.nd (df_lst da_nil))
      (dss_cons (ds_if (db_tru (dt_var 3)) (dss_cons (ds_for PassesOwn.never rfl (di_range1 h_range (DE.t de_int)) (dg_name 10 sc__law_due.nd) (dss_cons (ds_set 9 sc__law_due.nd (de_call c__law_draw (hr.mono (by decide)) (da_cons (de_var 0) (da_cons de_int (da_cons (de_mul (DE.t de_int) (dt_var 10)) (da_cons (de_len h_len (dt_var 1)) da_nil))))))
      (dss_cons (ds_set 11 sc__law_due.nd (de_add (dt_var 9) (DE.t (de_call c__law_draw (hr.mono (by decide)) (da_cons (de_var 0) (da_cons de_int (da_cons (de_add (DE.t (de_mul (DE.t de_int) (dt_var 10))) (DE.t de_int)) (da_cons (de_min2 rfl h_min (DE.t (de_sub (DE.t (de_len h_len (dt_var 1))) (dt_var 9))) (DE.t (de_add (DE.t de_int) (DE.t (de_mul (DE.t de_int) (dt_var 10)))))) da_nil))))))))
      (dss_one (ds_app 6 (de_tup (da_cons (de_var 9) (da_cons (de_var 11) (da_cons (de_call c__law_far_word (hr.mono (by decide)) (da_cons (de_var 1) (da_cons (de_var 9) (da_cons (de_var 11) (da_cons (de_var 2) da_nil))))) da_nil)))))))))
      (dss_one (ds_frz 6 (ds_ret (DE.t (de_tup (da_cons (de_var 4) (da_cons (de_var 5) (da_cons (de_call c__law_range (hr.mono (by decide)) (da_cons (de_var 1) (da_cons (de_var 2) da_nil))) (da_cons (de_var 6) da_nil)))))))))) dss_nil)
      (dss_cons (ds_setLcF 7 (own := [("fires", 12)]) rfl sc__law_due.nd (dit_list (DE.t (de_call c__law_settlements (hr.mono (by decide)) (da_cons (de_var 1) da_nil)))) (blkOk_by (N := N__law_due) (sc := defScope s__law_due) (by decide +kernel)) (by decide) (fun _ _ _ _ _ => (dg_name 12 sc__law_due.nd)) (fun _ _ _ _ _ => dts_nil) (fun _ _ _ _ _ => (de_call c__law_marks (hr.mono (by decide)) (da_cons (de_var 12) (da_cons (de_var 2) da_nil)))) (sw_true rfl rfl rfl (by decide +kernel)))
      (dss_cons (ds_setLcF 8 (own := [("marks", 13)]) rfl sc__law_due.nd (dit_list (dt_var 7)) (blkOk_by (N := N__law_due) (sc := defScope s__law_due) (by decide +kernel)) (by decide) (fun _ _ _ _ _ => (dg_name 13 sc__law_due.nd)) (fun _ _ _ _ _ => dts_nil) (fun _ _ _ _ _ => (de_len h_len (DE.t (de_call c__law_spans (hr.mono (by decide)) (da_cons (de_var 13) da_nil))))) (sw_true rfl rfl rfl (by decide +kernel)))
      (dss_cons (ds_for PassesOwn.never rfl (di_range1 h_range (DE.t (de_len h_len (dt_var 1)))) (dg_name 9 sc__law_due.nd) (dss_one (ds_for PassesOwn.never rfl (di_range2 h_range (dt_var 9) (DE.t (de_len h_len (dt_var 1)))) (dg_name 11 sc__law_due.nd) (dss_one (ds_app 6 (de_tup (da_cons (de_var 9) (da_cons (de_var 11) (da_cons (de_call c__law_near_word (hr.mono (by decide)) (da_cons (de_var 7) (da_cons (de_var 9) (da_cons (de_var 11) da_nil)))) da_nil)))))))))
      (dss_one (ds_frz 6 (ds_ret (DE.t (de_tup (da_cons (de_var 4) (da_cons (de_var 5) (da_cons (de_tup (da_cons (de_min1 rfl h_min (dt_var 8)) (da_cons (de_max1 rfl h_max (dt_var 8)) da_nil))) (da_cons (de_var 6) da_nil)))))))))))))))))
theorem bd__law_due (kV doc pm : Value) (an : Option Addr) (cdv ct : Value) (us : List Value) (hl : us.length = ["script", "firing", "reach", "long_list"].length) : bindArgs (PySem.W.fnOf "_law_due" "_law_due" (defArgs s__law_due) (defBody s__law_due) (defScope s__law_due) .none kV doc pm an cdv ct) ⟨us, []⟩ = pure ((["script", "firing", "reach", "long_list"] : List Str).zip us) := match us, hl with | [_, _, _, _], _ => rfl
theorem cal__law_due (F : Stands K mg "_law_due" s__law_due) (c__law_spans : Cal P w K mg base "_law_spans" 1 1 m__law_spans) (c__law_marks : Cal P w K mg base "_law_marks" 1 2 m__law_marks) (c__law_draw : Cal P w K mg base "_law_draw" 2 4 m__law_draw) (c__law_far_word : Cal P w K mg base "_law_far_word" 2 4 m__law_far_word) (c__law_range : Cal P w K mg base "_law_range" 1 2 m__law_range) (c__law_settlements : Cal P w K mg base "_law_settlements" 1 1 m__law_settlements) (c__law_near_word : Cal P w K mg base "_law_near_word" 1 3 m__law_near_word) (h_range : mg "range" = none) (h_len : mg "len" = none) (h_min : mg "min" = none) (h_max : mg "max" = none) : Cal P w K mg base "_law_due" 3 4 m__law_due :=
  cal_of F bd__law_due fun F => fn__law_due F c__law_spans c__law_marks c__law_draw c__law_far_word c__law_range c__law_settlements c__law_near_word h_range h_len h_min h_max

abbrev s__law_is_number : Stmt := topS 24
abbrev N__law_is_number : List Str := ["value"]
theorem sc__law_is_number : FnScope N__law_is_number ["value"] (defScope s__law_is_number) := ⟨rfl, rfl, rfl, by decide +kernel, rfl, by decide +kernel, by decide +kernel⟩
def b__law_is_number : En → Option Out :=
      (mRet (mAndV (mUn (isiD "int") (mVarT 0)) (mUn (fun d => (truD d).map fun k => .bl (!k)) (mUn (isiD "bool") (mVarT 0)))))
def m__law_is_number : List D → Option D := callM 1 1 b__law_is_number
theorem fn__law_is_number {f : Addr} {fd : FuncData} (F : FunD K "_law_is_number" "_law_is_number" (defArgs s__law_is_number) (defBody s__law_is_number) (defScope s__law_is_number) [] [] f fd) (h_isinstance : mg "isinstance" = none) (h_int : mg "int" = none) (h_bool : mg "bool" = none) : FnOk P w K mg base CX0 1 f fd ["value"] (spD K 1 m__law_is_number) :=
  fn_mk (N := N__law_is_number) (m := b__law_is_number) F sc__law_is_number rfl (fun cdv A outer s H E hr =>
      (dss_one (ds_ret (DE.t (de_and (de_isi (T' := "int") h_isinstance h_int boot_int (dt_var 0)) (de_one (de_not (DE.t (de_isi (T' := "bool") h_isinstance h_bool (by decide +kernel) (dt_var 0))))))))))
theorem bd__law_is_number (kV doc pm : Value) (an : Option Addr) (cdv ct : Value) (us : List Value) (hl : us.length = ["value"].length) : bindArgs (PySem.W.fnOf "_law_is_number" "_law_is_number" (defArgs s__law_is_number) (defBody s__law_is_number) (defScope s__law_is_number) .none kV doc pm an cdv ct) ⟨us, []⟩ = pure ((["value"] : List Str).zip us) := match us, hl with | [_], _ => rfl
theorem cal__law_is_number (F : Stands K mg "_law_is_number" s__law_is_number) (h_isinstance : mg "isinstance" = none) (h_int : mg "int" = none) (h_bool : mg "bool" = none) : Cal P w K mg base "_law_is_number" 1 1 m__law_is_number :=
  cal_of F bd__law_is_number fun F => fn__law_is_number F h_isinstance h_int h_bool

abbrev s__law_is_pair : Stmt := topS 25
abbrev N__law_is_pair : List Str := ["told", "due"]
theorem sc__law_is_pair : FnScope N__law_is_pair ["told", "due"] (defScope s__law_is_pair) := ⟨rfl, rfl, rfl, by decide +kernel, rfl, by decide +kernel, by decide +kernel⟩
def b__law_is_pair : En → Option Out :=
      (mSeq (mIfS (mOr (mNot (fun E => ((mUn (isiD "tuple") (mVarT 0)) E).bind truD)) (fun E => ((mBin neD (mUn lenD (mVarT 0)) (mC (.int 2))) E).bind blOf)) (mRet (mC (.bl false))) mNext)
      (mSeq (mIfS (mOr (mNot (fun E => ((mCall 1 m__law_is_number (mCons (mBin ixD (mVarT 0) (mC (.int 0))) mNil)) E).bind truD)) (mNot (fun E => ((mCall 1 m__law_is_number (mCons (mBin ixD (mVarT 0) (mC (.int 1))) mNil)) E).bind truD))) (mRet (mC (.bl false))) mNext)
      (mRet (mAndV (mBin eqD (mBin ixD (mVarT 0) (mC (.int 0))) (mBin ixD (mVarT 1) (mC (.int 0)))) (mBin eqD (mBin ixD (mVarT 0) (mC (.int 1))) (mBin ixD (mVarT 1) (mC (.int 1))))))))
def m__law_is_pair : List D → Option D := callM 2 2 b__law_is_pair
theorem fn__law_is_pair {f : Addr} {fd : FuncData} (F : FunD K "_law_is_pair" "_law_is_pair" (defArgs s__law_is_pair) (defBody s__law_is_pair) (defScope s__law_is_pair) [] [] f fd) (c__law_is_number : Cal P w K mg base "_law_is_number" 1 1 m__law_is_number) (h_isinstance : mg "isinstance" = none) (h_tuple : mg "tuple" = none) (h_len : mg "len" = none) : FnOk P w K mg base CX0 2 f fd ["told", "due"] (spD K 2 m__law_is_pair) :=
  fn_mk (N := N__law_is_pair) (m := b__law_is_pair) F sc__law_is_pair rfl (fun cdv A outer s H E hr =>
      (dss_cons (ds_if (DW.toB (dw_or (db_not (db_tru (DE.t (de_isi (T' := "tuple") h_isinstance h_tuple (by decide +kernel) (dt_var 0))))) (dw_or1 (db_cmp (op_neAll hr) od_ne (DE.t (de_len h_len (dt_var 0))) (DE.t de_int))))) (dss_one (ds_ret (DE.t de_bl))) dss_nil)
      (dss_cons (ds_if (DW.toB (dw_or (db_not (db_tru (DE.t (de_call c__law_is_number (hr.mono (by decide)) (da_cons (de_ix (dt_var 0) (DE.t de_int)) da_nil))))) (dw_or1 (db_not (db_tru (DE.t (de_call c__law_is_number (hr.mono (by decide)) (da_cons (de_ix (dt_var 0) (DE.t de_int)) da_nil)))))))) (dss_one (ds_ret (DE.t de_bl))) dss_nil)
      (dss_one (ds_ret (DE.t (de_and (de_cmp (op_eqAll hr) od_eq (DE.t (de_ix (dt_var 0) (DE.t de_int))) (DE.t (de_ix (dt_var 1) (DE.t de_int)))) (de_one (de_cmp (op_eqAll hr) od_eq (DE.t (de_ix (dt_var 0) (DE.t de_int))) (DE.t (de_ix (dt_var 1) (DE.t de_int))))))))))))
theorem bd__law_is_pair (kV doc pm : Value) (an : Option Addr) (cdv ct : Value) (us : List Value) (hl : us.length = ["told", "due"].length) : bindArgs (PySem.W.fnOf "_law_is_pair" "_law_is_pair" (defArgs s__law_is_pair) (defBody s__law_is_pair) (defScope s__law_is_pair) .none kV doc pm an cdv ct) ⟨us, []⟩ = pure ((["told", "due"] : List Str).zip us) := match us, hl with | [_, _], _ => rfl
theorem cal__law_is_pair (F : Stands K mg "_law_is_pair" s__law_is_pair) (c__law_is_number : Cal P w K mg base "_law_is_number" 1 1 m__law_is_number) (h_isinstance : mg "isinstance" = none) (h_tuple : mg "tuple" = none) (h_len : mg "len" = none) : Cal P w K mg base "_law_is_pair" 2 2 m__law_is_pair :=
  cal_of F bd__law_is_pair fun F => fn__law_is_pair F c__law_is_number h_isinstance h_tuple h_len

abbrev s__law_are_pairs : Stmt := topS 26
abbrev N__law_are_pairs : List Str := ["told", "due", "k"]
theorem sc__law_are_pairs : FnScope N__law_are_pairs ["told", "due"] (defScope s__law_are_pairs) := ⟨rfl, rfl, rfl, by decide +kernel, rfl, by decide +kernel, by decide +kernel⟩
def b__law_are_pairs : En → Option Out :=
      (mSeq (mIfS (mOr (mNot (fun E => ((mUn (isiD "list") (mVarT 0)) E).bind truD)) (fun E => ((mBin neD (mUn lenD (mVarT 0)) (mUn lenD (mVarT 1))) E).bind blOf)) (mRet (mC (.bl false))) mNext)
      (mSeq (mFor (fun E => ((mUn lenD (mVarT 1)) E).bind rg1) (gM 2) (mIfS (mNot (fun E => ((mCall 2 m__law_is_pair (mCons (mBin ixD (mVarT 0) (mVarT 2)) (mCons (mBin ixD (mVarT 1) (mVarT 2)) mNil))) E).bind truD)) (mRet (mC (.bl false))) mNext))
      (mRet (mC (.bl true)))))
def m__law_are_pairs : List D → Option D := callM 2 3 b__law_are_pairs
theorem fn__law_are_pairs {f : Addr} {fd : FuncData} (F : FunD K "_law_are_pairs" "_law_are_pairs" (defArgs s__law_are_pairs) (defBody s__law_are_pairs) (defScope s__law_are_pairs) [] [] f fd) (c__law_is_pair : Cal P w K mg base "_law_is_pair" 2 2 m__law_is_pair) (h_isinstance : mg "isinstance" = none) (h_list : mg "list" = none) (h_len : mg "len" = none) (h_range : mg "range" = none) : FnOk P w K mg base CX0 3 f fd ["told", "due"] (spD K 2 m__law_are_pairs) :=
  fn_mk (N := N__law_are_pairs) (m := b__law_are_pairs) F sc__law_are_pairs rfl (fun cdv A outer s H E hr =>
      (dss_cons (ds_if (DW.toB (dw_or (db_not (db_tru (DE.t (de_isi (T' := "list") h_isinstance h_list (by decide +kernel) (dt_var 0))))) (dw_or1 (db_cmp (op_neAll hr) od_ne (DE.t (de_len h_len (dt_var 0))) (DE.t (de_len h_len (dt_var 1))))))) (dss_one (ds_ret (DE.t de_bl))) dss_nil)
      (dss_cons (ds_for PassesOwn.never rfl (di_range1 h_range (DE.t (de_len h_len (dt_var 1)))) (dg_name 2 sc__law_are_pairs.nd) (dss_one (ds_if (db_not (db_tru (DE.t (de_call c__law_is_pair (hr.mono (by decide)) (da_cons (de_ix (dt_var 0) (dt_var 2)) (da_cons (de_ix (dt_var 1) (dt_var 2)) da_nil)))))) (dss_one (ds_ret (DE.t de_bl))) dss_nil)))
      (dss_one (ds_ret (DE.t de_bl))))))
theorem bd__law_are_pairs (kV doc pm : Value) (an : Option Addr) (cdv ct : Value) (us : List Value) (hl : us.length = ["told", "due"].length) : bindArgs (PySem.W.fnOf "_law_are_pairs" "_law_are_pairs" (defArgs s__law_are_pairs) (defBody s__law_are_pairs) (defScope s__law_are_pairs) .none kV doc pm an cdv ct) ⟨us, []⟩ = pure ((["told", "due"] : List Str).zip us) := match us, hl with | [_, _], _ => rfl
theorem cal__law_are_pairs (F : Stands K mg "_law_are_pairs" s__law_are_pairs) (c__law_is_pair : Cal P w K mg base "_law_is_pair" 2 2 m__law_is_pair) (h_isinstance : mg "isinstance" = none) (h_list : mg "list" = none) (h_len : mg "len" = none) (h_range : mg "range" = none) : Cal P w K mg base "_law_are_pairs" 3 2 m__law_are_pairs :=
  cal_of F bd__law_are_pairs fun F => fn__law_are_pairs F c__law_is_pair h_isinstance h_list h_len h_range

abbrev s__law_are_words : Stmt := topS 27
abbrev N__law_are_words : List Str := ["told", "due", "k"]
theorem sc__law_are_words : FnScope N__law_are_words ["told", "due"] (defScope s__law_are_words) := ⟨rfl, rfl, rfl, by decide +kernel, rfl, by decide +kernel, by decide +kernel⟩
def b__law_are_words : En → Option Out :=
      (mSeq (mIfS (mOr (mNot (fun E => ((mUn (isiD "list") (mVarT 0)) E).bind truD)) (fun E => ((mBin neD (mUn lenD (mVarT 0)) (mUn lenD (mVarT 1))) E).bind blOf)) (mRet (mC (.bl false))) mNext)
      (mSeq (mFor (fun E => ((mUn lenD (mVarT 1)) E).bind rg1) (gM 2) (mIfS (mOr (mNot (fun E => ((mUn (isiD "str") (mBin ixD (mVarT 0) (mVarT 2))) E).bind truD)) (fun E => ((mBin neD (mBin ixD (mVarT 0) (mVarT 2)) (mBin ixD (mVarT 1) (mVarT 2))) E).bind blOf)) (mRet (mC (.bl false))) mNext))
      (mRet (mC (.bl true)))))
def m__law_are_words : List D → Option D := callM 2 3 b__law_are_words
theorem fn__law_are_words {f : Addr} {fd : FuncData} (F : FunD K "_law_are_words" "_law_are_words" (defArgs s__law_are_words) (defBody s__law_are_words) (defScope s__law_are_words) [] [] f fd) (h_isinstance : mg "isinstance" = none) (h_list : mg "list" = none) (h_len : mg "len" = none) (h_range : mg "range" = none) (h_str : mg "str" = none) : FnOk P w K mg base CX0 1 f fd ["told", "due"] (spD K 2 m__law_are_words) :=
  fn_mk (N := N__law_are_words) (m := b__law_are_words) F sc__law_are_words rfl (fun cdv A outer s H E hr =>
      (dss_cons (ds_if (DW.toB (dw_or (db_not (db_tru (DE.t (de_isi (T' := "list") h_isinstance h_list (by decide +kernel) (dt_var 0))))) (dw_or1 (db_cmp (op_neAll hr) od_ne (DE.t (de_len h_len (dt_var 0))) (DE.t (de_len h_len (dt_var 1))))))) (dss_one (ds_ret (DE.t de_bl))) dss_nil)
      (dss_cons (ds_for PassesOwn.never rfl (di_range1 h_range (DE.t (de_len h_len (dt_var 1)))) (dg_name 2 sc__law_are_words.nd) (dss_one (ds_if (DW.toB (dw_or (db_not (db_tru (DE.t (de_isi (T' := "str") h_isinstance h_str (by decide +kernel) (DE.t (de_ix (dt_var 0) (dt_var 2))))))) (dw_or1 (db_cmp (op_neAll hr) od_ne (DE.t (de_ix (dt_var 0) (dt_var 2))) (DE.t (de_ix (dt_var 1) (dt_var 2))))))) (dss_one (ds_ret (DE.t de_bl))) dss_nil)))
      (dss_one (ds_ret (DE.t de_bl))))))
theorem bd__law_are_words (kV doc pm : Value) (an : Option Addr) (cdv ct : Value) (us : List Value) (hl : us.length = ["told", "due"].length) : bindArgs (PySem.W.fnOf "_law_are_words" "_law_are_words" (defArgs s__law_are_words) (defBody s__law_are_words) (defScope s__law_are_words) .none kV doc pm an cdv ct) ⟨us, []⟩ = pure ((["told", "due"] : List Str).zip us) := match us, hl with | [_, _], _ => rfl
theorem cal__law_are_words (F : Stands K mg "_law_are_words" s__law_are_words) (h_isinstance : mg "isinstance" = none) (h_list : mg "list" = none) (h_len : mg "len" = none) (h_range : mg "range" = none) (h_str : mg "str" = none) : Cal P w K mg base "_law_are_words" 1 2 m__law_are_words :=
  cal_of F bd__law_are_words fun F => fn__law_are_words F h_isinstance h_list h_len h_range h_str

abbrev s__law_asked : Stmt := topS 28
abbrev N__law_asked : List Str := ["firing", "reach", "due", "passed", "turn", "asked", "first_told", "second_told", "word"]
theorem sc__law_asked : FnScope N__law_asked ["firing", "reach", "due"] (defScope s__law_asked) := ⟨rfl, rfl, rfl, by decide +kernel, rfl, by decide +kernel, by decide +kernel⟩
def b__law_asked : En → Option Out :=
      (mSeq (mSet 3 (mList (fun E => ((mVarT 0) E).bind seqOf)))
      (mSeq (mFor (fun E => ((mC (.int 2)) E).bind rg1) (gM 4) (mSeq (mSetO 6 (mCallF 2 mF_incidents (mApL (mLen 1 (mCons (mVar 3) mNil)) (mLen 1 (mCons (mVar 1) mNil)))))
      (mSeq (mSetO 7 (mCallF 2 mF_possible_incidents (mApL (mLen 1 (mCons (mVar 3) mNil)) (mLen 1 (mCons (mVar 1) mNil)))))
      (mSeq (mIfS (mOr (mNot (fun E => ((mCallT 2 m__law_are_pairs (mCons (mVarT 6) (mCons (mBin ixD (mVarT 2) (mC (.int 0))) mNil))) E).bind truD)) (mNot (fun E => ((mCallT 2 m__law_are_pairs (mCons (mVarT 7) (mCons (mBin ixD (mVarT 2) (mC (.int 1))) mNil))) E).bind truD))) (mRet (mC (.bl false))) mNext)
      (mSeq (mApp 6 (mTup (mCons (mC (.int 0)) (mCons (mC (.int 0)) mNil))))
      (mSeq (mIns 7 (mC (.int 0)) (mTup (mCons (mC (.int 7)) (mCons (mC (.int 7)) mNil))))
      (mIfS (mNot (fun E => ((mCall 2 m__law_is_pair (mCons (mCall 2 m_incident_range (mApL (mLen 1 (mCons (mVar 3) mNil)) (mLen 1 (mCons (mVar 1) mNil)))) (mCons (mBin ixD (mVarT 2) (mC (.int 2))) mNil))) E).bind truD)) (mRet (mC (.bl false))) mNext)))))))
      (mSeq (mFor (fun E => ((mBin ixD (mVarT 2) (mC (.int 3))) E).bind lstOf) (gM 5) (mSeq (mSet 8 (mCall 4 m_joined (mApL (mLen 3 (mCons (mVar 3) (mCons (mBin ixD (mVarT 5) (mC (.int 0))) (mCons (mBin ixD (mVarT 5) (mC (.int 1))) mNil)))) (mLen 1 (mCons (mVar 1) mNil)))))
      (mIfS (mOr (mNot (fun E => ((mUn (isiD "str") (mVarT 8)) E).bind truD)) (fun E => ((mBin neD (mVarT 8) (mBin ixD (mVarT 5) (mC (.int 2)))) E).bind blOf)) (mRet (mC (.bl false))) mNext)))
      (mRet (mCall 2 m__law_are_words (mCons (mVar 3) (mCons (mVar 0) mNil)))))))
def m__law_asked : List D → Option D := callM 3 9 b__law_asked
theorem fn__law_asked {f : Addr} {fd : FuncData} (F : FunD K "_law_asked" "_law_asked" (defArgs s__law_asked) (defBody s__law_asked) (defScope s__law_asked) [] [] f fd) (c__law_are_pairs : Cal P w K mg base "_law_are_pairs" 3 2 m__law_are_pairs) (c__law_is_pair : Cal P w K mg base "_law_is_pair" 2 2 m__law_is_pair) (c_incident_range : CalK P w K mg base "incident_range" 3 2 1 ["gap"] [.int 0] (spD K 2 m_incident_range)) (c_joined : CalK P w K mg base "joined" 3 4 3 ["gap"] [.int 0] (spD K 4 m_joined)) (c__law_are_words : Cal P w K mg base "_law_are_words" 1 2 m__law_are_words) (f_incidents : CalK P w K mg base "incidents" 2 2 1 ["gap"] [.int 0] (spF K 2 mF_incidents)) (f_possible_incidents : CalK P w K mg base "possible_incidents" 2 2 1 ["gap"] [.int 0] (spF K 2 mF_possible_incidents)) (h_list : mg "list" = none) (h_range : mg "range" = none) (h_isinstance : mg "isinstance" = none) (h_str : mg "str" = none) : FnOk P w K mg base CX0 4 f fd ["firing", "reach", "due"] (spD K 3 m__law_asked) :=
  fn_mk (N := N__law_asked) (m := b__law_asked) F sc__law_asked rfl (fun cdv A outer s H E hr =>
      (dss_cons (ds_set 3 sc__law_asked.nd (DF.toE (df_list h_list (dt_var 0))))
      (dss_cons (ds_for PassesOwn.never rfl (di_range1 h_range (DE.t de_int)) (dg_name 4 sc__law_asked.nd) (dss_cons (ds_setO 6 sc__law_asked.nd (df_callK f_incidents (hr.mono (by decide)) (da_cons (de_var 3) da_nil) (dk_cons (de_var 1) dk_nil)))
      (dss_cons (ds_setO 7 sc__law_asked.nd (df_callK f_possible_incidents (hr.mono (by decide)) (da_cons (de_var 3) da_nil) (dk_cons (de_var 1) dk_nil)))
      (dss_cons (ds_if (DW.toB (dw_or (db_not (db_tru (DE.t (de_callT c__law_are_pairs (hr.mono (by decide)) (dat_cons (dt_var 6) (dat_cons (DE.t (de_ix (dt_var 2) (DE.t de_int))) dat_nil)))))) (dw_or1 (db_not (db_tru (DE.t (de_callT c__law_are_pairs (hr.mono (by decide)) (dat_cons (dt_var 7) (dat_cons (DE.t (de_ix (dt_var 2) (DE.t de_int))) dat_nil))))))))) (dss_one (ds_ret (DE.t de_bl))) dss_nil)
      (dss_cons (ds_app 6 (de_tup (da_cons de_int (da_cons de_int da_nil))))
      (dss_cons (ds_ins 7 de_int (de_tup (da_cons de_int (da_cons de_int da_nil))))
      (dss_one (ds_if (db_not (db_tru (DE.t (de_call c__law_is_pair (hr.mono (by decide)) (da_cons (de_callK c_incident_range (hr.mono (by decide)) (da_cons (de_var 3) da_nil) (dk_cons (de_var 1) dk_nil)) (da_cons (de_ix (dt_var 2) (DE.t de_int)) da_nil)))))) (dss_one (ds_ret (DE.t de_bl))) dss_nil))))))))
      (dss_cons (ds_for PassesOwn.never rfl (di_list (de_ix (dt_var 2) (DE.t de_int))) (dg_name 5 sc__law_asked.nd) (dss_cons (ds_set 8 sc__law_asked.nd (de_callK c_joined (hr.mono (by decide)) (da_cons (de_var 3) (da_cons (de_ix (dt_var 5) (DE.t de_int)) (da_cons (de_ix (dt_var 5) (DE.t de_int)) da_nil))) (dk_cons (de_var 1) dk_nil)))
      (dss_one (ds_if (DW.toB (dw_or (db_not (db_tru (DE.t (de_isi (T' := "str") h_isinstance h_str (by decide +kernel) (dt_var 8))))) (dw_or1 (db_cmp (op_neAll hr) od_ne (dt_var 8) (DE.t (de_ix (dt_var 5) (DE.t de_int))))))) (dss_one (ds_ret (DE.t de_bl))) dss_nil))))
      (dss_one (ds_ret (DE.t (de_call c__law_are_words (hr.mono (by decide)) (da_cons (de_var 3) (da_cons (de_var 0) da_nil))))))))))
theorem bd__law_asked (kV doc pm : Value) (an : Option Addr) (cdv ct : Value) (us : List Value) (hl : us.length = ["firing", "reach", "due"].length) : bindArgs (PySem.W.fnOf "_law_asked" "_law_asked" (defArgs s__law_asked) (defBody s__law_asked) (defScope s__law_asked) .none kV doc pm an cdv ct) ⟨us, []⟩ = pure ((["firing", "reach", "due"] : List Str).zip us) := match us, hl with | [_, _, _], _ => rfl
theorem cal__law_asked (F : Stands K mg "_law_asked" s__law_asked) (c__law_are_pairs : Cal P w K mg base "_law_are_pairs" 3 2 m__law_are_pairs) (c__law_is_pair : Cal P w K mg base "_law_is_pair" 2 2 m__law_is_pair) (c_incident_range : CalK P w K mg base "incident_range" 3 2 1 ["gap"] [.int 0] (spD K 2 m_incident_range)) (c_joined : CalK P w K mg base "joined" 3 4 3 ["gap"] [.int 0] (spD K 4 m_joined)) (c__law_are_words : Cal P w K mg base "_law_are_words" 1 2 m__law_are_words) (f_incidents : CalK P w K mg base "incidents" 2 2 1 ["gap"] [.int 0] (spF K 2 mF_incidents)) (f_possible_incidents : CalK P w K mg base "possible_incidents" 2 2 1 ["gap"] [.int 0] (spF K 2 mF_possible_incidents)) (h_list : mg "list" = none) (h_range : mg "range" = none) (h_isinstance : mg "isinstance" = none) (h_str : mg "str" = none) : Cal P w K mg base "_law_asked" 4 3 m__law_asked :=
  cal_of F bd__law_asked fun F => fn__law_asked F c__law_are_pairs c__law_is_pair c_incident_range c_joined c__law_are_words f_incidents f_possible_incidents h_list h_range h_isinstance h_str

abbrev s__law_asked_without : Stmt := topS 29
abbrev N__law_asked_without : List Str := ["firing", "due", "passed", "asked", "word"]
theorem sc__law_asked_without : FnScope N__law_asked_without ["firing", "due"] (defScope s__law_asked_without) := ⟨rfl, rfl, rfl, by decide +kernel, rfl, by decide +kernel, by decide +kernel⟩
def b__law_asked_without : En → Option Out :=
      (mSeq (mSet 2 (mList (fun E => ((mVarT 0) E).bind seqOf)))
      (mSeq (mIfS (mOr (mNot (fun E => ((mCall 2 m__law_are_pairs (mCons (mCall 2 m_incidents (mApC (mCons (mVar 2) mNil) [.int 0])) (mCons (mBin ixD (mVarT 1) (mC (.int 0))) mNil))) E).bind truD)) (mNot (fun E => ((mCall 2 m__law_are_pairs (mCons (mCall 2 m_possible_incidents (mApC (mCons (mVar 2) mNil) [.int 0])) (mCons (mBin ixD (mVarT 1) (mC (.int 1))) mNil))) E).bind truD))) (mRet (mC (.bl false))) mNext)
      (mSeq (mIfS (mNot (fun E => ((mCall 2 m__law_is_pair (mCons (mCall 2 m_incident_range (mApC (mCons (mVar 2) mNil) [.int 0])) (mCons (mBin ixD (mVarT 1) (mC (.int 2))) mNil))) E).bind truD)) (mRet (mC (.bl false))) mNext)
      (mSeq (mFor (fun E => ((mBin ixD (mVarT 1) (mC (.int 3))) E).bind lstOf) (gM 3) (mSeq (mSet 4 (mCall 4 m_joined (mApC (mCons (mVar 2) (mCons (mBin ixD (mVarT 3) (mC (.int 0))) (mCons (mBin ixD (mVarT 3) (mC (.int 1))) mNil))) [.int 0])))
      (mIfS (mOr (mNot (fun E => ((mUn (isiD "str") (mVarT 4)) E).bind truD)) (fun E => ((mBin neD (mVarT 4) (mBin ixD (mVarT 3) (mC (.int 2)))) E).bind blOf)) (mRet (mC (.bl false))) mNext)))
      (mRet (mCall 2 m__law_are_words (mCons (mVar 2) (mCons (mVar 0) mNil))))))))
def m__law_asked_without : List D → Option D := callM 2 5 b__law_asked_without
theorem fn__law_asked_without {f : Addr} {fd : FuncData} (F : FunD K "_law_asked_without" "_law_asked_without" (defArgs s__law_asked_without) (defBody s__law_asked_without) (defScope s__law_asked_without) [] [] f fd) (c__law_are_pairs : Cal P w K mg base "_law_are_pairs" 3 2 m__law_are_pairs) (c_incidents : CalK P w K mg base "incidents" 2 2 1 ["gap"] [.int 0] (spD K 2 m_incidents)) (c_possible_incidents : CalK P w K mg base "possible_incidents" 2 2 1 ["gap"] [.int 0] (spD K 2 m_possible_incidents)) (c__law_is_pair : Cal P w K mg base "_law_is_pair" 2 2 m__law_is_pair) (c_incident_range : CalK P w K mg base "incident_range" 3 2 1 ["gap"] [.int 0] (spD K 2 m_incident_range)) (c_joined : CalK P w K mg base "joined" 3 4 3 ["gap"] [.int 0] (spD K 4 m_joined)) (c__law_are_words : Cal P w K mg base "_law_are_words" 1 2 m__law_are_words) (h_list : mg "list" = none) (h_isinstance : mg "isinstance" = none) (h_str : mg "str" = none) : FnOk P w K mg base CX0 4 f fd ["firing", "due"] (spD K 2 m__law_asked_without) :=
  fn_mk (N := N__law_asked_without) (m := b__law_asked_without) F sc__law_asked_without rfl (fun cdv A outer s H E hr =>
      (dss_cons (ds_set 2 sc__law_asked_without.nd (DF.toE (df_list h_list (dt_var 0))))
      (dss_cons (ds_if (DW.toB (dw_or (db_not (db_tru (DE.t (de_call c__law_are_pairs (hr.mono (by decide)) (da_cons (de_callD c_incidents [.int 0] (fun _ => (.cons (.int _) .nil)) (hr.mono (by decide)) (da_cons (de_var 2) da_nil)) (da_cons (de_ix (dt_var 1) (DE.t de_int)) da_nil)))))) (dw_or1 (db_not (db_tru (DE.t (de_call c__law_are_pairs (hr.mono (by decide)) (da_cons (de_callD c_possible_incidents [.int 0] (fun _ => (.cons (.int _) .nil)) (hr.mono (by decide)) (da_cons (de_var 2) da_nil)) (da_cons (de_ix (dt_var 1) (DE.t de_int)) da_nil))))))))) (dss_one (ds_ret (DE.t de_bl))) dss_nil)
      (dss_cons (ds_if (db_not (db_tru (DE.t (de_call c__law_is_pair (hr.mono (by decide)) (da_cons (de_callD c_incident_range [.int 0] (fun _ => (.cons (.int _) .nil)) (hr.mono (by decide)) (da_cons (de_var 2) da_nil)) (da_cons (de_ix (dt_var 1) (DE.t de_int)) da_nil)))))) (dss_one (ds_ret (DE.t de_bl))) dss_nil)
      (dss_cons (ds_for PassesOwn.never rfl (di_list (de_ix (dt_var 1) (DE.t de_int))) (dg_name 3 sc__law_asked_without.nd) (dss_cons (ds_set 4 sc__law_asked_without.nd (de_callD c_joined [.int 0] (fun _ => (.cons (.int _) .nil)) (hr.mono (by decide)) (da_cons (de_var 2) (da_cons (de_ix (dt_var 3) (DE.t de_int)) (da_cons (de_ix (dt_var 3) (DE.t de_int)) da_nil)))))
      (dss_one (ds_if (DW.toB (dw_or (db_not (db_tru (DE.t (de_isi (T' := "str") h_isinstance h_str (by decide +kernel) (dt_var 4))))) (dw_or1 (db_cmp (op_neAll hr) od_ne (dt_var 4) (DE.t (de_ix (dt_var 3) (DE.t de_int))))))) (dss_one (ds_ret (DE.t de_bl))) dss_nil))))
      (dss_one (ds_ret (DE.t (de_call c__law_are_words (hr.mono (by decide)) (da_cons (de_var 2) (da_cons (de_var 0) da_nil)))))))))))
theorem bd__law_asked_without (kV doc pm : Value) (an : Option Addr) (cdv ct : Value) (us : List Value) (hl : us.length = ["firing", "due"].length) : bindArgs (PySem.W.fnOf "_law_asked_without" "_law_asked_without" (defArgs s__law_asked_without) (defBody s__law_asked_without) (defScope s__law_asked_without) .none kV doc pm an cdv ct) ⟨us, []⟩ = pure ((["firing", "due"] : List Str).zip us) := match us, hl with | [_, _], _ => rfl
theorem cal__law_asked_without (F : Stands K mg "_law_asked_without" s__law_asked_without) (c__law_are_pairs : Cal P w K mg base "_law_are_pairs" 3 2 m__law_are_pairs) (c_incidents : CalK P w K mg base "incidents" 2 2 1 ["gap"] [.int 0] (spD K 2 m_incidents)) (c_possible_incidents : CalK P w K mg base "possible_incidents" 2 2 1 ["gap"] [.int 0] (spD K 2 m_possible_incidents)) (c__law_is_pair : Cal P w K mg base "_law_is_pair" 2 2 m__law_is_pair) (c_incident_range : CalK P w K mg base "incident_range" 3 2 1 ["gap"] [.int 0] (spD K 2 m_incident_range)) (c_joined : CalK P w K mg base "joined" 3 4 3 ["gap"] [.int 0] (spD K 4 m_joined)) (c__law_are_words : Cal P w K mg base "_law_are_words" 1 2 m__law_are_words) (h_list : mg "list" = none) (h_isinstance : mg "isinstance" = none) (h_str : mg "str" = none) : Cal P w K mg base "_law_asked_without" 4 2 m__law_asked_without :=
  cal_of F bd__law_asked_without fun F => fn__law_asked_without F c__law_are_pairs c_incidents c_possible_incidents c__law_is_pair c_incident_range c_joined c__law_are_words h_list h_isinstance h_str

abbrev s__law_silenced : Stmt := topS 30
abbrev N__law_silenced : List Str := ["firing", "silences", "quiet", "passed", "asked", "turn", "told"]
theorem sc__law_silenced : FnScope N__law_silenced ["firing", "silences", "quiet"] (defScope s__law_silenced) := ⟨rfl, rfl, rfl, by decide +kernel, rfl, by decide +kernel, by decide +kernel⟩
def b__law_silenced : En → Option Out :=
      (mSeq (mSet 3 (mList (fun E => ((mVarT 0) E).bind seqOf)))
      (mSeq (mSet 4 (mList (fun E => ((mVarT 1) E).bind seqOf)))
      (mSeq (mFor (fun E => ((mC (.int 2)) E).bind rg1) (gM 5) (mSeq (mSetO 6 (mCallF 2 mF_silenced (mCons (mVar 3) (mCons (mVar 4) mNil))))
      (mSeq (mIfS (mOr (mNot (fun E => ((mCallT 2 m__law_are_words (mCons (mVarT 6) (mCons (mVarT 2) mNil))) E).bind truD)) (mNot (fun E => ((mCall 2 m__law_are_pairs (mCons (mVar 4) (mCons (mVar 1) mNil))) E).bind truD))) (mRet (mC (.bl false))) mNext)
      (mSeq (mApp 6 (mC (.str "open")))
      (mIfS (mNot (fun E => ((mCall 2 m__law_are_words (mCons (mVar 3) (mCons (mVar 0) mNil))) E).bind truD)) (mRet (mC (.bl false))) mNext)))))
      (mRet (mC (.bl true))))))
def m__law_silenced : List D → Option D := callM 3 7 b__law_silenced
theorem fn__law_silenced {f : Addr} {fd : FuncData} (F : FunD K "_law_silenced" "_law_silenced" (defArgs s__law_silenced) (defBody s__law_silenced) (defScope s__law_silenced) [] [] f fd) (c__law_are_words : Cal P w K mg base "_law_are_words" 1 2 m__law_are_words) (c__law_are_pairs : Cal P w K mg base "_law_are_pairs" 3 2 m__law_are_pairs) (f_silenced : CalF P w K mg base "silenced" 1 2 mF_silenced) (h_list : mg "list" = none) (h_range : mg "range" = none) : FnOk P w K mg base CX0 4 f fd ["firing", "silences", "quiet"] (spD K 3 m__law_silenced) :=
  fn_mk (N := N__law_silenced) (m := b__law_silenced) F sc__law_silenced rfl (fun cdv A outer s H E hr =>
      (dss_cons (ds_set 3 sc__law_silenced.nd (DF.toE (df_list h_list (dt_var 0))))
      (dss_cons (ds_set 4 sc__law_silenced.nd (DF.toE (df_list h_list (dt_var 1))))
      (dss_cons (ds_for PassesOwn.never rfl (di_range1 h_range (DE.t de_int)) (dg_name 5 sc__law_silenced.nd) (dss_cons (ds_setO 6 sc__law_silenced.nd (df_call f_silenced (hr.mono (by decide)) (da_cons (de_var 3) (da_cons (de_var 4) da_nil))))
      (dss_cons (ds_if (DW.toB (dw_or (db_not (db_tru (DE.t (de_callT c__law_are_words (hr.mono (by decide)) (dat_cons (dt_var 6) (dat_cons (dt_var 2) dat_nil)))))) (dw_or1 (db_not (db_tru (DE.t (de_call c__law_are_pairs (hr.mono (by decide)) (da_cons (de_var 4) (da_cons (de_var 1) da_nil))))))))) (dss_one (ds_ret (DE.t de_bl))) dss_nil)
      (dss_cons (ds_app 6 de_str)
      (dss_one (ds_if (db_not (db_tru (DE.t (de_call c__law_are_words (hr.mono (by decide)) (da_cons (de_var 3) (da_cons (de_var 0) da_nil)))))) (dss_one (ds_ret (DE.t de_bl))) dss_nil))))))
      (dss_one (ds_ret (DE.t de_bl)))))))
theorem bd__law_silenced (kV doc pm : Value) (an : Option Addr) (cdv ct : Value) (us : List Value) (hl : us.length = ["firing", "silences", "quiet"].length) : bindArgs (PySem.W.fnOf "_law_silenced" "_law_silenced" (defArgs s__law_silenced) (defBody s__law_silenced) (defScope s__law_silenced) .none kV doc pm an cdv ct) ⟨us, []⟩ = pure ((["firing", "silences", "quiet"] : List Str).zip us) := match us, hl with | [_, _, _], _ => rfl
theorem cal__law_silenced (F : Stands K mg "_law_silenced" s__law_silenced) (c__law_are_words : Cal P w K mg base "_law_are_words" 1 2 m__law_are_words) (c__law_are_pairs : Cal P w K mg base "_law_are_pairs" 3 2 m__law_are_pairs) (f_silenced : CalF P w K mg base "silenced" 1 2 mF_silenced) (h_list : mg "list" = none) (h_range : mg "range" = none) : Cal P w K mg base "_law_silenced" 4 3 m__law_silenced :=
  cal_of F bd__law_silenced fun F => fn__law_silenced F c__law_are_words c__law_are_pairs f_silenced h_list h_range

abbrev s_law : Stmt := topS 31
abbrev N_law : List Str := ["script", "long_list", "firing", "reach", "silences", "quiet"]
theorem sc_law : FnScope N_law ["script"] (defScope s_law) := ⟨rfl, rfl, rfl, by decide +kernel, rfl, by decide +kernel, by decide +kernel⟩
def b_law : En → Option Out :=
      (mSeq (mSet 1 (mBin eqD (mCall 4 m__law_draw (mCons (mVar 0) (mCons (mC (.int 0)) (mCons (mC (.int 0)) (mCons (mC (.int 8)) mNil))))) (mC (.int 0))))
      (mSeq (mSet 2 (mCall 2 m__law_firing (mCons (mVar 0) (mCons (mVar 1) mNil))))
      (mSeq (mSet 3 (mCall 2 m__law_reach (mCons (mVar 0) (mCons (mVar 1) mNil))))
      (mSeq (mSet 4 (mCall 2 m__law_silences (mCons (mVar 0) (mCons (mUn lenD (mVarT 2)) mNil))))
      (mSeq (mSet 5 (mCall 2 m__law_quiet (mCons (mVar 2) (mCons (mVar 4) mNil))))
      (mSeq (mIfS (mNot (fun E => ((mCall 3 m__law_silenced (mCons (mVar 2) (mCons (mVar 4) (mCons (mVar 5) mNil)))) E).bind truD)) (mRet (mC (.bl false))) mNext)
      (mSeq (mIfS (mNot (fun E => ((mCall 3 m__law_asked (mCons (mVar 2) (mCons (mVar 3) (mCons (mCall 4 m__law_due (mCons (mVar 0) (mCons (mVar 2) (mCons (mVar 3) (mCons (mVar 1) mNil))))) mNil)))) E).bind truD)) (mRet (mC (.bl false))) mNext)
      (mSeq (mIfS (mNot (fun E => ((mCall 2 m__law_asked_without (mCons (mVar 2) (mCons (mCall 4 m__law_due (mCons (mVar 0) (mCons (mVar 2) (mCons (mC (.int 0)) (mCons (mVar 1) mNil))))) mNil))) E).bind truD)) (mRet (mC (.bl false))) mNext)
      (mRet (mCall 3 m__law_asked (mCons (mVar 5) (mCons (mVar 3) (mCons (mCall 4 m__law_due (mCons (mVar 0) (mCons (mVar 5) (mCons (mVar 3) (mCons (mVar 1) mNil))))) mNil)))))))))))))
def m_law : List D → Option D := callM 1 6 b_law
theorem fn_law {f : Addr} {fd : FuncData} (F : FunD K "law" "law" (defArgs s_law) (defBody s_law) (defScope s_law) [] [] f fd) (c__law_draw : Cal P w K mg base "_law_draw" 2 4 m__law_draw) (c__law_firing : Cal P w K mg base "_law_firing" 3 2 m__law_firing) (c__law_reach : Cal P w K mg base "_law_reach" 3 2 m__law_reach) (c__law_silences : Cal P w K mg base "_law_silences" 3 2 m__law_silences) (c__law_quiet : Cal P w K mg base "_law_quiet" 1 2 m__law_quiet) (c__law_silenced : Cal P w K mg base "_law_silenced" 4 3 m__law_silenced) (c__law_asked : Cal P w K mg base "_law_asked" 4 3 m__law_asked) (c__law_due : Cal P w K mg base "_law_due" 3 4 m__law_due) (c__law_asked_without : Cal P w K mg base "_law_asked_without" 4 2 m__law_asked_without) (h_len : mg "len" = none) : FnOk P w K mg base CX0 5 f fd ["script"] (spD K 1 m_law) :=
  fn_mk (N := N_law) (m := b_law) F sc_law rfl (fun cdv A outer s H E hr =>
      (dss_cons (ds_set 1 sc_law.nd (de_cmp (op_eqAll hr) od_eq (DE.t (de_call c__law_draw (hr.mono (by decide)) (da_cons (de_var 0) (da_cons de_int (da_cons de_int (da_cons de_int da_nil)))))) (DE.t de_int)))
      (dss_cons (ds_set 2 sc_law.nd (de_call c__law_firing (hr.mono (by decide)) (da_cons (de_var 0) (da_cons (de_var 1) da_nil))))
      (dss_cons (ds_set 3 sc_law.nd (de_call c__law_reach (hr.mono (by decide)) (da_cons (de_var 0) (da_cons (de_var 1) da_nil))))
      (dss_cons (ds_set 4 sc_law.nd (de_call c__law_silences (hr.mono (by decide)) (da_cons (de_var 0) (da_cons (de_len h_len (dt_var 2)) da_nil))))
      (dss_cons (ds_set 5 sc_law.nd (de_call c__law_quiet (hr.mono (by decide)) (da_cons (de_var 2) (da_cons (de_var 4) da_nil))))
      (dss_cons (ds_if (db_not (db_tru (DE.t (de_call c__law_silenced (hr.mono (by decide)) (da_cons (de_var 2) (da_cons (de_var 4) (da_cons (de_var 5) da_nil))))))) (dss_one (ds_ret (DE.t de_bl))) dss_nil)
      (dss_cons (ds_if (db_not (db_tru (DE.t (de_call c__law_asked (hr.mono (by decide)) (da_cons (de_var 2) (da_cons (de_var 3) (da_cons (de_call c__law_due (hr.mono (by decide)) (da_cons (de_var 0) (da_cons (de_var 2) (da_cons (de_var 3) (da_cons (de_var 1) da_nil))))) da_nil))))))) (dss_one (ds_ret (DE.t de_bl))) dss_nil)
      (dss_cons (ds_if (db_not (db_tru (DE.t (de_call c__law_asked_without (hr.mono (by decide)) (da_cons (de_var 2) (da_cons (de_call c__law_due (hr.mono (by decide)) (da_cons (de_var 0) (da_cons (de_var 2) (da_cons de_int (da_cons (de_var 1) da_nil))))) da_nil)))))) (dss_one (ds_ret (DE.t de_bl))) dss_nil)
      (dss_one (ds_ret (DE.t (de_call c__law_asked (hr.mono (by decide)) (da_cons (de_var 5) (da_cons (de_var 3) (da_cons (de_call c__law_due (hr.mono (by decide)) (da_cons (de_var 0) (da_cons (de_var 5) (da_cons (de_var 3) (da_cons (de_var 1) da_nil))))) da_nil))))))))))))))))
theorem bd_law (kV doc pm : Value) (an : Option Addr) (cdv ct : Value) (us : List Value) (hl : us.length = ["script"].length) : bindArgs (PySem.W.fnOf "law" "law" (defArgs s_law) (defBody s_law) (defScope s_law) .none kV doc pm an cdv ct) ⟨us, []⟩ = pure ((["script"] : List Str).zip us) := match us, hl with | [_], _ => rfl
theorem cal_law (F : Stands K mg "law" s_law) (c__law_draw : Cal P w K mg base "_law_draw" 2 4 m__law_draw) (c__law_firing : Cal P w K mg base "_law_firing" 3 2 m__law_firing) (c__law_reach : Cal P w K mg base "_law_reach" 3 2 m__law_reach) (c__law_silences : Cal P w K mg base "_law_silences" 3 2 m__law_silences) (c__law_quiet : Cal P w K mg base "_law_quiet" 1 2 m__law_quiet) (c__law_silenced : Cal P w K mg base "_law_silenced" 4 3 m__law_silenced) (c__law_asked : Cal P w K mg base "_law_asked" 4 3 m__law_asked) (c__law_due : Cal P w K mg base "_law_due" 3 4 m__law_due) (c__law_asked_without : Cal P w K mg base "_law_asked_without" 4 2 m__law_asked_without) (h_len : mg "len" = none) : Cal P w K mg base "law" 5 1 m_law :=
  cal_of F bd_law fun F => fn_law F c__law_draw c__law_firing c__law_reach c__law_silences c__law_quiet c__law_silenced c__law_asked c__law_due c__law_asked_without h_len

end
end Sx

set_option Elab.async false
set_option linter.all false
set_option maxRecDepth 100000
set_option maxHeartbeats 2000000
namespace Sx
open PySem L2
theorem cell_ok (ns : List Int) (at_ : Int) (h : 0 ≤ at_) : ∃ r : Int, m__law_cell [.scr ns, .int at_] = some (.int r) := by
  unfold m__law_cell callM b__law_cell
  by_cases hl : at_ < (ns.length : Int)
  · obtain ⟨x, hx, _⟩ := atI_nat' h hl
    exact ⟨x, by simp [hl, hx]⟩
  · simp [hl, mulOk_l]
    generalize hmb : mSet 2 _ = mb
    obtain ⟨E', h1, h2⟩ := runFor_inv (mg := gM 3) (mb := mb) (fun _ E => ∃ s r, E = [.fz (.scr ns), .fz (.int at_), .fz (.int r), s]) (ns.map .int) 0 [.fz (.scr ns), .fz (.int at_), .fz (.int (11 + 101 * at_)), .un] ⟨_, _, rfl⟩ fun j d E hj hI => by
      obtain ⟨s, r, rfl⟩ := hI
      obtain ⟨c, rfl, _⟩ := ints_at hj
      refine ⟨_, _, rfl, .inl ?_, ⟨.fz (.int c), (r * 31 + c) % 1000000007, rfl⟩⟩
      subst hmb
      simp [mulOk_r]
    obtain ⟨s, r, rfl⟩ := h2
    exact ⟨r, by simp [h1]⟩
theorem draw_ok (ns : List Int) {at_ k size : Int} (h : 0 ≤ at_) (hk : 0 ≤ k ∧ k ≤ 90000) (hs : 0 < size) : ∃ r : Int, m__law_draw [.scr ns, .int at_, .int k, .int size] = some (.int r) ∧ 0 ≤ r ∧ r < size := by
  obtain ⟨c, hc⟩ := cell_ok ns at_ h
  have last : ∀ x : Int, 0 ≤ x % size ∧ x % size < size := fun x => ⟨Int.emod_nonneg _ (by omega), Int.emod_lt_of_pos _ hs⟩
  have m1 : ∀ x : Int, -18446744073709551616 < x % 2147483647 ∧ x % 2147483647 < 18446744073709551616 := fun x => by omega
  have m2 : ∀ x : Int, -18446744073709551616 < x % 2147483629 ∧ x % 2147483629 < 18446744073709551616 := fun x => by omega
  unfold m__law_draw callM b__law_draw
  by_cases hb : (1000000000000000000 : Int) ≤ c
  · simp [hc, hb, powOk_c, mulOk_l, mulOk_r, divOk_c, hs, m1, m2, hk, show -100000 ≤ k by omega, show k ≤ 100000 by omega]
    generalize hmb : mSet 6 _ = mb
    obtain ⟨E', h1, h2⟩ := runFor_inv (mg := gM 7) (mb := mb) (fun _ E => ∃ s r, E = [.fz (.scr ns), .fz (.int at_), .fz (.int k), .fz (.int size), .fz (.int c), .un, .fz (.int r), s]) (rangeD 0 k.toNat) 0 [.fz (.scr ns), .fz (.int at_), .fz (.int k), .fz (.int size), .fz (.int c), .un, .fz (.int c), .un] ⟨_, _, rfl⟩ fun j d E hj hI => by
      obtain ⟨s, r, rfl⟩ := hI
      obtain ⟨rfl, _⟩ := range_at hj
      refine ⟨_, _, rfl, .inl ?_, ⟨.fz (.int (0 + j)), r / 1000003, rfl⟩⟩
      subst hmb
      simp [divOk_c]
    obtain ⟨s, r, rfl⟩ := h2
    by_cases hr : 0 < r
    · exact ⟨r % 1000003 % size, by simp [h1, hr, hs], last _⟩
    · refine ⟨?x % size, ?h, last ?x⟩
      case h =>
        simp [h1, hr, hs, mulOk_l, mulOk_r, divOk_c, m1, m2]
        rfl
  · refine ⟨?x % size, ?h, last ?x⟩
    case h => simp [hc, hb, powOk_c, mulOk_l, mulOk_r, divOk_c, hs, m1, m2]
theorem rangeD_eq (lo : Int) (n : Nat) : rangeD lo n = (List.range n).map fun (i : Nat) => D.int (lo + (i : Int)) := rfl
end Sx

set_option Elab.async false
set_option linter.all false
set_option maxRecDepth 100000
set_option maxHeartbeats 2000000
namespace Sx
open PySem L2
def wS : Wd → Str
  | .y => "yes"
  | .n => "no"
  | .o => "open"
def wD (w : Wd) : D := .str (wS w)
def pD (p : Int × Int) : D := .tup [.int p.1, .int p.2]
abbrev fl (ws : List Wd) : D := .lst (ws.map wD)
@[simp] theorem wS_yes (w : Wd) : (wS w = ("yes" : Str)) = (w = .y) := by cases w <;> simp [wS] <;> decide +kernel
@[simp] theorem wS_no (w : Wd) : (wS w = ("no" : Str)) = (w = .n) := by cases w <;> simp [wS] <;> decide +kernel
@[simp] theorem wS_open (w : Wd) : (wS w = ("open" : Str)) = (w = .o) := by cases w <;> simp [wS] <;> decide +kernel
theorem wS_inj {v w : Wd} (h : wS v = wS w) : v = w := by
  cases v <;> cases w <;> first | rfl | (exact absurd h (by decide +kernel))
@[simp] theorem wS_eq (v w : Wd) : (wS v = wS w) = (v = w) := by
  apply propext
  exact ⟨wS_inj, fun h => by rw [h]⟩
@[simp] theorem in_lo (w : Wd) : inD (wD w) (.tup [.str "yes"]) = some (.bl (loB w)) :=
  congrArg (fun b => some (D.bl b)) (show ([("yes" : Str)] : List Str).contains (wS w) = loB w by cases w <;> decide +kernel)
@[simp] theorem in_hi (w : Wd) : inD (wD w) (.tup [.str "yes", .str "open"]) = some (.bl (hiB w)) :=
  congrArg (fun b => some (D.bl b)) (show ([("yes" : Str), "open"] : List Str).contains (wS w) = hiB w by cases w <;> decide +kernel)
/-- the ticks at which p holds -/
def tk (p : Wd → Bool) : Int → List Wd → List Int
  | _, [] => []
  | i, w :: ws => if p w = true then i :: tk p (i + 1) ws else tk p (i + 1) ws
theorem tk_len (p : Wd → Bool) : ∀ (ws : List Wd) (i : Int), (tk p i ws).length ≤ ws.length
  | [], _ => Nat.le_refl _
  | w :: ws, i => by
    have := tk_len p ws (i + 1)
    rw [tk]
    split <;> simp <;> omega
def TK (g : Int) : Option (Int × Int) → List Int → List (Int × Int)
  | none, [] => []
  | some c, [] => [c]
  | none, t :: ts => TK g (some (t, t)) ts
  | some (f, l), t :: ts => if t - l - 1 ≤ g then TK g (some (f, t)) ts else (f, l) :: TK g (some (t, t)) ts
theorem SP_TK (g : Int) (p : Wd → Bool) : ∀ (ws : List Wd) (i : Int) (cur : Option (Int × Int)), SP g i cur (ws.map p) = TK g cur (tk p i ws)
  | [], i, none => rfl
  | [], i, some c => rfl
  | w :: ws, i, cur => by
    rw [List.map_cons, tk]
    cases hp : p w with
    | false =>
      rw [if_neg (by simp)]
      cases cur <;> (rw [SP]; exact SP_TK g p ws (i + 1) _)
    | true =>
      rw [if_pos rfl]
      match cur with
      | none =>
        rw [SP, TK]
        exact SP_TK g p ws (i + 1) _
      | some (f, l) =>
        rw [SP, TK, SP_TK g p ws (i + 1) _, SP_TK g p ws (i + 1) _]
theorem SP_len (g : Int) : ∀ (bs : List Bool) (i : Int) (cur : Option (Int × Int)), (SP g i cur bs).length ≤ bs.length + 1
  | [], i, none => by simp [SP]
  | [], i, some c => by simp [SP]
  | false :: bs, i, cur => by
    have := SP_len g bs (i + 1) cur
    cases cur <;> (rw [SP]; simp; omega)
  | true :: bs, i, none => by
    have := SP_len g bs (i + 1) (some (i, i))
    rw [SP]
    simp
    omega
  | true :: bs, i, some (f, l) => by
    have h1 := SP_len g bs (i + 1) (some (f, i))
    have h2 := SP_len g bs (i + 1) (some (i, i))
    rw [SP]
    split <;> simp <;> omega
theorem comp_tk (p : Wd → Bool) (T : D) (hT : ∀ w, inD (wD w) T = some (.bl (p w))) {mg : En → D → Option En} {mt : En → Option Bool} {me : En → Option D} {E0 : En}
    (hg : ∀ (n : Int) (w : Wd), ∃ E1, mg E0 (.tup [.int n, wD w]) = some E1 ∧ mt E1 = (inD (wD w) T).bind blOf ∧ me E1 = some (.int n)) : ∀ (ws : List Wd) (n : Nat), runComp mg mt me E0 (enumD n (ws.map wD)) = some ((tk p n ws).map .int)
  | [], n => rfl
  | w :: ws, n => by
    obtain ⟨E1, h1, h2, h3⟩ := hg n w
    have ih := comp_tk p T hT hg ws (n + 1)
    have c : ((n + 1 : Nat) : Int) = (n : Int) + 1 := by omega
    rw [c] at ih
    show (mg E0 (.tup [.int n, wD w])).bind _ = _
    rw [h1]
    show (mt E1).bind _ = _
    rw [h2, hT w]
    show (if p w = true then (me E1).bind (fun r => (runComp mg mt me E0 (enumD (n + 1) (ws.map wD))).map (r :: ·)) else runComp mg mt me E0 (enumD (n + 1) (ws.map wD))) = _
    rw [h3, ih, tk]
    split <;> rfl
theorem joinedF_ok (p : Wd → Bool) (T : D) (hT : ∀ w, inD (wD w) T = some (.bl (p w))) (g : Int) (ws : List Wd) (hl : ws.length ≤ 1000) : mF__joined_ticks [fl ws, T, .int g] = some ((SP g 0 none (ws.map p)).map pD) := by
  have hl1 : (enumD 0 (ws.map wD)).length ≤ 100000 := by rw [enumD_len, List.length_map]; omega
  have hl2 : (tk p 0 ws).length ≤ 1000 := Nat.le_trans (tk_len p ws 0) hl
  unfold mF__joined_ticks callF b__joined_ticks
  simp [hl1]
  generalize hmb : mIfS _ _ _ = mb
  rw [comp_tk p T hT (fun n w => ⟨_, rfl, by simp, by simp⟩) ws 0]
  simp
  rw [SP_TK]
  generalize htot : TK g none (tk p 0 ws) = tot
  generalize hts : tk p 0 ws = ts at *
  obtain ⟨E', h1, h2⟩ := runFor_inv (mg := gTupM 2 (gsCons (gM 5) (gsCons (gM 6) gsNil))) (mb := mb) (fun j E => ∃ (cl : List (Int × Int)) (cur : Option (Int × Int)) (s5 s6 s7 s8 s9 : Sl), E = [.fz (fl ws), .fz T, .fz (.int g), .fz (.lst (ts.map .int)), .ow ((cl ++ cur.toList).map pD), s5, s6, s7, s8, s9] ∧ cl.length ≤ j ∧ cl ++ TK g cur (ts.drop j) = tot ∧ (j = 0 → cur = none) ∧ (0 < j → ∃ f l, cur = some (f, l) ∧ ts[j - 1]? = some l))
    (enumD 0 (ts.map .int)) 0 [.fz (fl ws), .fz T, .fz (.int g), .fz (.lst (ts.map .int)), .ow [], .un, .un, .un, .un, .un] ⟨[], none, _, _, _, _, _, rfl, Nat.le_refl _, htot, fun _ => rfl, fun h => absurd h (by omega)⟩ fun j d E hj hI => by
    rw [Nat.zero_add] at hI ⊢
    obtain ⟨cl, cur, s5, s6, s7, s8, s9, rfl, hcl, ht, hz, hs⟩ := hI
    rw [enumD_get, List.getElem?_map] at hj
    obtain ⟨d1, hd1, rfl⟩ := map_some hj
    obtain ⟨t, ht1, rfl⟩ := map_some hd1
    have hjl := (List.getElem?_eq_some_iff.mp ht1).1
    have hdr : ts.drop j = t :: ts.drop (j + 1) := by
      rw [List.drop_eq_getElem_cons hjl]
      rw [(List.getElem?_eq_some_iff.mp ht1).2]
    rw [hdr] at ht
    by_cases h0 : j = 0
    · subst h0
      obtain rfl := hz rfl
      have hcl0 : cl = [] := List.eq_nil_of_length_eq_zero (by omega)
      subst hcl0
      refine ⟨_, _, rfl, .inl ?_, ⟨[], some (t, t), .fz (.int 0), .fz (.int t), s7, s8, s9, rfl, by simp, by rw [TK] at ht; exact ht, fun h => absurd h (by omega), fun _ => ⟨t, t, rfl, by simpa using ht1⟩⟩⟩
      subst hmb
      simp [pD]
    · obtain ⟨f, l, rfl, hlp⟩ := hs (by omega)
      have hat : atI (ts.map D.int) ((j : Int) - 1) = some (.int l) := by
        rw [atI_map]
        obtain ⟨x, hx, hx2⟩ := atI_nat' (xs := ts) (i := (j : Int) - 1) (by omega) (by omega)
        rw [hx]
        have e : ((j : Int) - 1).toNat = j - 1 := by omega
        rw [e, hlp] at hx2
        cases hx2
        rfl
      rw [TK] at ht
      by_cases hg : t - l - 1 ≤ g
      · rw [if_pos hg] at ht
        refine ⟨_, _, rfl, .inl ?_, ⟨cl, some (f, t), .fz (.int ((0 + j : Nat) : Int)), .fz (.int t), s7, .fz (.int f), .fz (.int l), rfl, by omega, ht, fun h => absurd h (by omega), fun _ => ⟨f, t, rfl, by simpa using ht1⟩⟩⟩
        · subst hmb
          have hc1 : (cl.map pD).length < 100000 := by rw [List.length_map]; omega
          have hjp : 0 < j := by omega
          have hln : cl.length < 100000 := by omega
          simp [hjp, hat, hg, pD, hln]
      · rw [if_neg hg] at ht
        refine ⟨_, _, rfl, .inl ?_, ⟨cl ++ [(f, l)], some (t, t), .fz (.int ((0 + j : Nat) : Int)), .fz (.int t), s7, s8, s9, rfl, by simp; omega, by rw [List.append_assoc]; exact ht, fun h => absurd h (by omega), fun _ => ⟨t, t, rfl, by simpa using ht1⟩⟩⟩
        · subst hmb
          have hjp : 0 < j := by omega
          have hln : cl.length + 1 < 100000 := by omega
          simp [hjp, hat, hg, pD, hln]
  obtain ⟨cl, cur, s5, s6, s7, s8, s9, rfl, hcl, ht, hz, hs⟩ := h2
  rw [h1]
  rw [Nat.zero_add, enumD_len, List.length_map, List.drop_length] at ht
  have hf : cl ++ cur.toList = tot := by
    rw [← ht]
    cases cur <;> rfl
  simp [hf]
end Sx

set_option Elab.async false
set_option linter.all false
set_option maxRecDepth 100000
set_option maxHeartbeats 2000000
namespace Sx
open PySem L2
@[simp] theorem ne_yes_no : ((Str.ofString "yes") = (Str.ofString "no")) = False := eq_false (by decide +kernel)
@[simp] theorem ne_yes_open : ((Str.ofString "yes") = (Str.ofString "open")) = False := eq_false (by decide +kernel)
@[simp] theorem ne_no_yes : ((Str.ofString "no") = (Str.ofString "yes")) = False := eq_false (by decide +kernel)
@[simp] theorem ne_no_open : ((Str.ofString "no") = (Str.ofString "open")) = False := eq_false (by decide +kernel)
@[simp] theorem ne_open_yes : ((Str.ofString "open") = (Str.ofString "yes")) = False := eq_false (by decide +kernel)
@[simp] theorem ne_open_no : ((Str.ofString "open") = (Str.ofString "no")) = False := eq_false (by decide +kernel)
theorem runComp_map {α : Type} {mg : En → D → Option En} {mt : En → Option Bool} {me : En → Option D} {E0 : En} (f h : α → D) : ∀ (xs : List α),
    (∀ x ∈ xs, ∃ E1, mg E0 (f x) = some E1 ∧ mt E1 = some true ∧ me E1 = some (h x)) → runComp mg mt me E0 (xs.map f) = some (xs.map h)
  | [], _ => rfl
  | x :: xs, hx => by
    obtain ⟨E1, h1, h2, h3⟩ := hx x (List.mem_cons_self ..)
    have ih := runComp_map (mg := mg) (mt := mt) (me := me) (E0 := E0) f h xs fun z hz => hx z (List.mem_cons_of_mem _ hz)
    show (mg E0 (f x)).bind _ = _
    rw [h1]
    show (mt E1).bind _ = _
    rw [h2]
    show (if true = true then (me E1).bind (fun r => (runComp mg mt me E0 (xs.map f)).map (r :: ·)) else runComp mg mt me E0 (xs.map f)) = _
    rw [if_pos rfl, h3, ih]
    rfl
abbrev spD1 (p : Wd → Bool) (g : Int) (ws : List Wd) : List (Int × Int) := SP g 0 none (ws.map p)
theorem incF_ok (g : Int) (ws : List Wd) (hl : ws.length ≤ 1000) : mF_incidents [fl ws, .int g] = some ((spD1 loB g ws).map pD) := by
  unfold mF_incidents callF b_incidents
  have h := joinedF_ok loB (.tup [.str "yes"]) in_lo g ws hl
  simp [h]
theorem posF_ok (g : Int) (ws : List Wd) (hl : ws.length ≤ 1000) : mF_possible_incidents [fl ws, .int g] = some ((spD1 hiB g ws).map pD) := by
  unfold mF_possible_incidents callF b_possible_incidents
  have h := joinedF_ok hiB (.tup [.str "yes", .str "open"]) in_hi g ws hl
  simp [h]
theorem inc_ok (g : Int) (ws : List Wd) (hl : ws.length ≤ 1000) : m_incidents [fl ws, .int g] = some (.lst ((spD1 loB g ws).map pD)) := by
  unfold m_incidents callM b_incidents
  have h := joinedF_ok loB (.tup [.str "yes"]) in_lo g ws hl
  simp [h]
theorem pos_ok (g : Int) (ws : List Wd) (hl : ws.length ≤ 1000) : m_possible_incidents [fl ws, .int g] = some (.lst ((spD1 hiB g ws).map pD)) := by
  unfold m_possible_incidents callM b_possible_incidents
  have h := joinedF_ok hiB (.tup [.str "yes", .str "open"]) in_hi g ws hl
  simp [h]
def inAny (ps : List (Int × Int)) (s t : Int) : Bool := ps.any fun p => decide (p.1 ≤ s) && decide (t ≤ p.2)
theorem allBls_ps (ps : List (Int × Int)) (f : Int × Int → Bool) : allBls (ps.map fun p => D.bl (f p)) = some (ps.map f) := by
  have := allBls_map (ps.map f)
  rw [List.map_map] at this
  exact this
theorem within_ok (ps : List (Int × Int)) (s t : Int) (hl : ps.length ≤ 100000) : m__is_within [.lst (ps.map pD), .int s, .int t] = some (.bl (inAny ps s t)) := by
  unfold m__is_within callM b__is_within
  simp [hl]
  rw [runComp_map pD (fun p => D.bl (decide (p.1 ≤ s) && decide (t ≤ p.2))) ps fun p hp => ⟨_, rfl, rfl, by
    by_cases h : p.1 ≤ s <;> simp [pD, h]⟩]
  simp [allBls_ps, inAny]
def jW (g : Int) (ws : List Wd) (s t : Nat) : Wd :=
  if inAny (spD1 loB g ws) s t = true ∧ ws[s]? = some .y ∧ ws[t]? = some .y then .y
  else if (ws[s]? ≠ some .n ∧ ws[t]? ≠ some .n) ∧ inAny (spD1 hiB g ws) s t = true then .o else .n
theorem atW {ws : List Wd} {s : Nat} {a : Wd} (h : ws[s]? = some a) : atI (ws.map wD) (s : Int) = some (wD a) := by
  have hs := (List.getElem?_eq_some_iff.mp h).1
  obtain ⟨x, h1, h2⟩ := atI_nat' (xs := ws) (i := (s : Int)) (by omega) (by omega)
  rw [Int.toNat_natCast, h] at h2
  cases h2
  rw [atI_map, h1]
  rfl
theorem joined_ok (g : Int) (ws : List Wd) (s t : Nat) (a b : Wd) (hl : ws.length ≤ 1000) (ha : ws[s]? = some a) (hb : ws[t]? = some b) : m_joined [fl ws, .int s, .int t, .int g] = some (wD (jW g ws s t)) := by
  have l1 := SP_len g (ws.map loB) 0 none
  have l2 := SP_len g (ws.map hiB) 0 none
  rw [List.length_map] at l1 l2
  have i1 := inc_ok g ws hl
  have i2 := pos_ok g ws hl
  have w1 := within_ok (spD1 loB g ws) s t (by unfold spD1; omega)
  have w2 := within_ok (spD1 hiB g ws) s t (by unfold spD1; omega)
  have a1 := atW ha
  have a2 := atW hb
  unfold m_joined callM b_joined jW
  rw [ha, hb]
  generalize inAny (spD1 loB g ws) s t = x at *
  generalize inAny (spD1 hiB g ws) s t = z at *
  cases x <;> cases z <;> cases a <;> cases b <;> simp [i1, i2, w1, w2, a1, a2, wD, wS]
end Sx

set_option Elab.async false
set_option linter.all false
set_option maxRecDepth 100000
set_option maxHeartbeats 2000000
namespace Sx
open PySem L2
theorem SP_mem (g : Int) : ∀ (bs : List Bool) (i : Int) (cur : Option (Int × Int)), 0 ≤ i → (∀ c, cur = some c → 0 ≤ c.1 ∧ c.1 ≤ c.2 ∧ c.2 ≤ i) → ∀ p ∈ SP g i cur bs, 0 ≤ p.1 ∧ p.1 ≤ p.2
  | [], i, none, _, _, p, h => by simp [SP] at h
  | [], i, some c, _, hc, p, h => by
    simp [SP] at h
    rw [h]
    have := hc c rfl
    exact ⟨this.1, this.2.1⟩
  | false :: bs, i, cur, h0, hc, p, h => by
    cases cur <;> (rw [SP] at h; exact SP_mem g bs (i + 1) _ (by omega) (fun c e => by have := hc c e; omega) p h)
  | true :: bs, i, none, h0, hc, p, h => by
    rw [SP] at h
    exact SP_mem g bs (i + 1) _ (by omega) (fun c e => by cases e; simp; omega) p h
  | true :: bs, i, some (f, l), h0, hc, p, h => by
    have := hc _ rfl
    rw [SP] at h
    split at h
    · exact SP_mem g bs (i + 1) _ (by omega) (fun c e => by cases e; simp at this ⊢; omega) p h
    · rcases List.mem_cons.mp h with rfl | h
      · simp at this ⊢
        omega
      · exact SP_mem g bs (i + 1) _ (by omega) (fun c e => by cases e; simp; omega) p h
theorem cutD_mapW (ws : List Wd) (a b : Int) (ha : 0 ≤ a) (hb : 0 ≤ b) : cutD (ws.map wD) (some a) (some b) = ((ws.drop (min a.toNat ws.length)).take (min b.toNat ws.length - min a.toNat ws.length)).map wD := by
  unfold cutD HT.sIx
  simp only []
  rw [if_neg (by omega), if_neg (by omega), List.length_map, List.map_take, List.map_drop]
theorem allStrs_w (ws : List Wd) : allStrs (ws.map wD) = some (ws.map wS) := by
  have := allStrs_map (ws.map wS)
  rw [List.map_map] at this
  exact this
theorem has_str (ws : List Wd) : (ws.map wS).contains ("yes" : Str) = ws.contains .y := by
  induction ws with
  | nil => rfl
  | cons w ws ih =>
    rw [List.map_cons, List.contains_cons, List.contains_cons, ih]
    congr 1
    cases w <;> decide +kernel
open Classical in
theorem cut_has (ws : List Wd) (f l : Int) (h0 : 0 ≤ f) (h1 : f ≤ l) : inD (.str "yes") (.lst (cutD (ws.map wD) (some f) (some (l + 1)))) = some (.bl (decide (hasY ws f l))) := by
  rw [cutD_mapW ws f (l + 1) h0 (by omega)]
  generalize hx : List.take _ _ = xs
  have e : inD (.str "yes") (.lst (xs.map wD)) = some (.bl ((xs.map wS).contains "yes")) := by simp [allStrs_w]
  rw [e, has_str]
  subst hx
  congr 2
  rw [Bool.eq_iff_iff, decide_eq_true_iff, List.contains_iff_mem]
  constructor
  · intro h
    obtain ⟨k, hk⟩ := List.getElem?_of_mem h
    have hk1 := (List.getElem?_eq_some_iff.mp hk).1
    rw [List.length_take, List.length_drop] at hk1
    rw [List.getElem?_take_of_lt (by omega), List.getElem?_drop] at hk
    have hk2 := (List.getElem?_eq_some_iff.mp hk).1
    exact ⟨_, by omega, by omega, hk⟩
  · rintro ⟨k, k1, k2, hk⟩
    have hk2 := (List.getElem?_eq_some_iff.mp hk).1
    refine List.mem_of_getElem? (i := k - min f.toNat ws.length) ?_
    rw [List.getElem?_take_of_lt (by omega), List.getElem?_drop]
    have e : min f.toNat ws.length + (k - min f.toNat ws.length) = k := by omega
    rw [e]
    exact hk
open Classical in
theorem range_ok (g : Int) (ws : List Wd) (hg : 0 ≤ g) (hl : ws.length ≤ 1000) : m_incident_range [fl ws, .int g] = some (.tup [.int (LW g (g + 1) false ws), .int (MW g (g + 1) ws)]) := by
  have i2 := pos_ok g ws hl
  have hc : cntY ws (spD1 hiB g ws) = LW g (g + 1) false ws := cntY_N g ws ws 0 (g + 1) rfl (by omega)
  have hm := SP_mem g (ws.map hiB) 0 none (by omega) (fun c e => by cases e)
  rw [← hc]
  unfold m_incident_range callM b_incident_range
  simp only [spD1] at *
  generalize SP g 0 none (ws.map hiB) = ps at *
  generalize hmb : mIfS (fun E => ((mBin inD _ _) E).bind blOf) _ _ = mb1
  generalize hmb2 : mSeq (mSet 8 _) _ = mb2
  simp [i2]
  obtain ⟨E', h1, h2⟩ := runFor_inv (mg := gTupM 2 (gsCons (gM 5) (gsCons (gM 4) gsNil))) (mb := mb1) (fun j E => ∃ (c : Int) (s4 s5 : Sl), E = [.fz (fl ws), .fz (.int g), .fz (.int c), .un, s4, s5, .un, .un, .un] ∧ c + cntY ws (ps.drop j) = cntY ws ps)
    (ps.map pD) 0 [.fz (fl ws), .fz (.int g), .fz (.int 0), .un, .un, .un, .un, .un, .un] ⟨0, .un, .un, rfl, by simp⟩ fun j d E hj hI => by
    rw [Nat.zero_add] at hI ⊢
    obtain ⟨c, s4, s5, rfl, ht⟩ := hI
    obtain ⟨⟨f, l⟩, rfl, hp⟩ := map_at hj
    have hjl := (List.getElem?_eq_some_iff.mp hp).1
    have hdr : ps.drop j = (f, l) :: ps.drop (j + 1) := by
      rw [List.drop_eq_getElem_cons hjl, (List.getElem?_eq_some_iff.mp hp).2]
    rw [hdr, cntY] at ht
    have hfl := hm _ (List.mem_of_getElem? hp)
    simp only [] at hfl
    have hcut := cut_has ws f l hfl.1 hfl.2
    refine ⟨_, _, rfl, .inl ?_, ⟨c + (if hasY ws f l then 1 else 0), .fz (.int l), .fz (.int f), rfl, ?_⟩⟩
    · subst hmb
      by_cases hy : hasY ws f l
      · simp [hy] at hcut
        obtain ⟨ss, q1, q2⟩ := hcut
        simp [q1, q2, hy, pD]
      · simp [hy] at hcut
        obtain ⟨ss, q1, q2⟩ := hcut
        simp [q1, q2, hy, pD]
    · by_cases hy : hasY ws f l
      · simp [hy] at ht ⊢
        omega
      · simp [hy] at ht ⊢
        omega
  obtain ⟨c, s4, s5, rfl, ht⟩ := h2
  rw [Nat.zero_add, List.length_map, List.drop_length, cntY, Int.add_zero] at ht
  subst ht
  simp [h1]
  generalize hM : MW g (g + 1) ws = M
  obtain ⟨E2, h3, h4⟩ := runFor_inv (mg := gTupM 2 (gsCons (gM 6) (gsCons (gM 7) gsNil))) (mb := mb2) (fun j E => ∃ (m e : Int) (La : D) (s6 s7 s8 : Sl), E = [.fz (fl ws), .fz (.int g), .fz (.int (cntY ws ps)), .fz (.int m), .fz La, s5, s6, s7, s8] ∧ m + MW g e (ws.drop j) = M ∧ ((La = .non ∧ g < e) ∨ (∃ l, La = .int l ∧ e = j - l - 1)))
    (enumD 0 (ws.map wD)) 0 [.fz (fl ws), .fz (.int g), .fz (.int (cntY ws ps)), .fz (.int 0), .fz .non, s5, .un, .un, .un] ⟨0, g + 1, .non, .un, .un, .un, rfl, by simpa using hM, .inl ⟨rfl, by omega⟩⟩ fun j d E hj hI => by
    rw [Nat.zero_add] at hI ⊢
    obtain ⟨m, e, La, s6, s7, s8, rfl, ht, hL⟩ := hI
    rw [enumD_get, List.getElem?_map] at hj
    obtain ⟨d1, hd1, rfl⟩ := map_some hj
    obtain ⟨w, hw, rfl⟩ := map_some hd1
    have hjl := (List.getElem?_eq_some_iff.mp hw).1
    have hdr : ws.drop j = w :: ws.drop (j + 1) := by
      rw [List.drop_eq_getElem_cons hjl, (List.getElem?_eq_some_iff.mp hw).2]
    rw [hdr] at ht
    rcases hL with ⟨rfl, he⟩ | ⟨l, rfl, he⟩
    · cases w with
      | n =>
        refine ⟨_, _, rfl, .inl ?_, ⟨m, e + 1, .non, .fz (.int ((0 + j : Nat) : Int)), .fz (wD .n), .fz (.bl true), rfl, by rw [MW] at ht; exact ht, .inl ⟨rfl, by omega⟩⟩⟩
        subst hmb2
        simp [wD, wS]
      | y =>
        refine ⟨_, _, rfl, .inl ?_, ⟨m + 1, 0, .int j, .fz (.int ((0 + j : Nat) : Int)), .fz (wD .y), .fz (.bl true), rfl, by rw [MW, if_pos he] at ht; omega, .inr ⟨j, rfl, by omega⟩⟩⟩
        subst hmb2
        simp [wD, wS]
      | o =>
        refine ⟨_, _, rfl, .inl ?_, ⟨m + 1, 0, .int j, .fz (.int ((0 + j : Nat) : Int)), .fz (wD .o), .fz (.bl true), rfl, by rw [MW, if_pos he] at ht; omega, .inr ⟨j, rfl, by omega⟩⟩⟩
        subst hmb2
        simp [wD, wS]
    · by_cases hb : g < (j : Int) - l - 1
      · cases w with
        | n =>
          refine ⟨_, _, rfl, .inl ?_, ⟨m, e + 1, .int l, .fz (.int ((0 + j : Nat) : Int)), .fz (wD .n), .fz (.bl true), rfl, by rw [MW] at ht; exact ht, .inr ⟨l, rfl, by omega⟩⟩⟩
          subst hmb2
          simp [wD, wS, hb]
        | y =>
          refine ⟨_, _, rfl, .inl ?_, ⟨m + 1, 0, .int j, .fz (.int ((0 + j : Nat) : Int)), .fz (wD .y), .fz (.bl true), rfl, by rw [MW, if_pos (by omega)] at ht; omega, .inr ⟨j, rfl, by omega⟩⟩⟩
          subst hmb2
          simp [wD, wS, hb]
        | o =>
          refine ⟨_, _, rfl, .inl ?_, ⟨m + 1, 0, .int j, .fz (.int ((0 + j : Nat) : Int)), .fz (wD .o), .fz (.bl true), rfl, by rw [MW, if_pos (by omega)] at ht; omega, .inr ⟨j, rfl, by omega⟩⟩⟩
          subst hmb2
          simp [wD, wS, hb]
      · cases w with
        | n =>
          refine ⟨_, _, rfl, .inl ?_, ⟨m, e + 1, .int l, .fz (.int ((0 + j : Nat) : Int)), .fz (wD .n), .fz (.bl false), rfl, by rw [MW] at ht; exact ht, .inr ⟨l, rfl, by omega⟩⟩⟩
          subst hmb2
          simp [wD, wS, hb]
        | y =>
          refine ⟨_, _, rfl, .inl ?_, ⟨m, 0, .int j, .fz (.int ((0 + j : Nat) : Int)), .fz (wD .y), .fz (.bl false), rfl, by rw [MW, if_neg (by omega)] at ht; omega, .inr ⟨j, rfl, by omega⟩⟩⟩
          subst hmb2
          simp [wD, wS, hb]
        | o =>
          refine ⟨_, _, rfl, .inl ?_, ⟨m, e + 1, .int l, .fz (.int ((0 + j : Nat) : Int)), .fz (wD .o), .fz (.bl false), rfl, by rw [MW, if_neg (by omega)] at ht; omega, .inr ⟨l, rfl, by omega⟩⟩⟩
          subst hmb2
          simp [wD, wS, hb]
  obtain ⟨m, e, La, s6, s7, s8, rfl, ht, hL⟩ := h4
  rw [Nat.zero_add, enumD_len, List.length_map, List.drop_length, MW, Int.add_zero] at ht
  subst ht
  simp [h3]
end Sx

set_option Elab.async false
set_option linter.all false
set_option maxRecDepth 100000
set_option maxHeartbeats 2000000
namespace Sx
open PySem L2
/-! ### silences -/
def qAny (sil : List (Int × Int)) (i : Int) : Bool := sil.any fun p => decide (p.1 ≤ i) && decide (i ≤ p.2)
def qW (sil : List (Int × Int)) (i : Int) (w : Wd) : Wd := if qAny sil i = true then .n else w
def QW (sil : List (Int × Int)) : Int → List Wd → List Wd
  | _, [] => []
  | i, w :: ws => qW sil i w :: QW sil (i + 1) ws
theorem QW_len (sil : List (Int × Int)) : ∀ (ws : List Wd) (i : Int), (QW sil i ws).length = ws.length
  | [], _ => rfl
  | w :: ws, i => congrArg Nat.succ (QW_len sil ws (i + 1))
theorem drop_at {α : Type} {xs : List α} {j : Nat} {x : α} (h : xs[j]? = some x) : xs.drop j = x :: xs.drop (j + 1) := by
  have hj := (List.getElem?_eq_some_iff.mp h).1
  rw [List.drop_eq_getElem_cons hj, (List.getElem?_eq_some_iff.mp h).2]
theorem enum_at {α : Type} {f : α → D} {xs : List α} {j : Nat} {d : D} (h : (enumD 0 (xs.map f))[j]? = some d) : ∃ x, d = .tup [.int (j : Int), f x] ∧ xs[j]? = some x := by
  rw [enumD_get, List.getElem?_map] at h
  obtain ⟨d1, h1, rfl⟩ := map_some h
  obtain ⟨x, h2, rfl⟩ := map_some h1
  exact ⟨x, by rw [Nat.zero_add], h2⟩
theorem silencedF_ok (ws : List Wd) (sil : List (Int × Int)) (hl : ws.length ≤ 1000) (hs : sil.length ≤ 1000) : mF_silenced [fl ws, .lst (sil.map pD)] = some ((QW sil 0 ws).map wD) := by
  unfold mF_silenced callF b_silenced
  generalize hmb : mSeq (mSet 5 _) _ = mb
  simp
  generalize htot : QW sil 0 ws = tot
  obtain ⟨E', h1, h2⟩ := runFor_inv (mg := gTupM 2 (gsCons (gM 3) (gsCons (gM 4) gsNil))) (mb := mb) (fun j E => ∃ (xs : List Wd) (s3 s4 s5 : Sl), E = [.fz (fl ws), .fz (.lst (sil.map pD)), .ow (xs.map wD), s3, s4, s5, .un, .un] ∧ xs.length = j ∧ xs ++ QW sil j (ws.drop j) = tot)
    (enumD 0 (ws.map wD)) 0 [.fz (fl ws), .fz (.lst (sil.map pD)), .ow [], .un, .un, .un, .un, .un] ⟨[], .un, .un, .un, rfl, rfl, htot⟩ fun j d E hj hI => by
    rw [Nat.zero_add] at hI ⊢
    obtain ⟨xs, s3, s4, s5, rfl, hx, ht⟩ := hI
    obtain ⟨w, rfl, hw⟩ := enum_at hj
    have hjl := (List.getElem?_eq_some_iff.mp hw).1
    rw [drop_at hw, QW] at ht
    refine ⟨_, _, rfl, .inl ?_, ⟨xs ++ [qW sil j w], .fz (.int j), .fz (wD w), .fz (.bl (qAny sil j)), rfl, by simp; omega, by rw [List.append_assoc]; exact ht⟩⟩
    subst hmb
    have hln : xs.length < 100000 := by omega
    have hls : sil.length ≤ 100000 := by omega
    simp [hls]
    rw [runComp_map pD (fun p => D.bl (decide (p.1 ≤ (j : Int)) && decide ((j : Int) ≤ p.2))) sil fun p hp => ⟨_, rfl, rfl, by
      by_cases h : p.1 ≤ (j : Int) <;> simp [pD, h]⟩]
    simp [allBls_ps]
    have e : (sil.any fun p => decide (p.1 ≤ (j : Int)) && decide ((j : Int) ≤ p.2)) = qAny sil j := rfl
    rw [e]
    cases hq : qAny sil j <;> simp [qW, hq, hln, wD, wS]
  obtain ⟨xs, s3, s4, s5, rfl, hx, ht⟩ := h2
  rw [Nat.zero_add, enumD_len, List.length_map, List.drop_length, QW, List.append_nil] at ht
  simp [h1, ht]
theorem quiet_ok (ws : List Wd) (sil : List (Int × Int)) (hl : ws.length ≤ 1000) (hs : sil.length ≤ 1000) : m__law_quiet [fl ws, .lst (sil.map pD)] = some (fl (QW sil 0 ws)) := by
  unfold m__law_quiet callM b__law_quiet
  generalize hmb2 : mIfS (fun E => ((mChain _ _ _ _ _) E).bind blOf) _ _ = mb2
  generalize hmb : mSeq (mSet 4 _) _ = mb
  simp [show (ws.length : Int) ≤ 100000 by omega, show (-100000 : Int) ≤ ws.length by omega]
  generalize htot : QW sil 0 ws = tot
  obtain ⟨E', h1, h2⟩ := runFor_inv (mg := gM 3) (mb := mb) (fun j E => ∃ (xs : List Wd) (s3 s4 s5 : Sl), E = [.fz (fl ws), .fz (.lst (sil.map pD)), .ow (xs.map wD), s3, s4, s5] ∧ xs.length = j ∧ xs ++ QW sil j (ws.drop j) = tot)
    (rangeD 0 ws.length) 0 [.fz (fl ws), .fz (.lst (sil.map pD)), .ow [], .un, .un, .un] ⟨[], .un, .un, .un, rfl, rfl, htot⟩ fun j d E hj hI => by
    rw [Nat.zero_add] at hI ⊢
    obtain ⟨xs, s3, s4, s5, rfl, hx, ht⟩ := hI
    obtain ⟨rfl, hjl⟩ := range_at hj
    obtain ⟨w, hw⟩ : ∃ w, ws[j]? = some w := ⟨_, List.getElem?_eq_getElem hjl⟩
    rw [drop_at hw, QW] at ht
    have a1 := atW hw
    have hln : xs.length < 100000 := by omega
    subst hmb
    obtain ⟨E2, h3, h4⟩ := runFor_inv (mg := gM 5) (mb := mb2) (fun k E => ∃ s5 : Sl, E = [.fz (fl ws), .fz (.lst (sil.map pD)), .ow (xs.map wD), .fz (.int j), .fz (wD (qW (sil.take k) j w)), s5])
      (sil.map pD) 0 [.fz (fl ws), .fz (.lst (sil.map pD)), .ow (xs.map wD), .fz (.int j), .fz (wD w), s5] ⟨s5, rfl⟩ fun k d E hk hI => by
      rw [Nat.zero_add] at hI ⊢
      obtain ⟨s5, rfl⟩ := hI
      obtain ⟨p, rfl, hp⟩ := map_at hk
      have ek : qAny (sil.take (k + 1)) j = (qAny (sil.take k) j || (decide (p.1 ≤ (j : Int)) && decide ((j : Int) ≤ p.2))) := by
        unfold qAny
        rw [List.take_succ, hp]
        simp
      refine ⟨_, _, rfl, .inl ?_, ⟨.fz (pD p), rfl⟩⟩
      subst hmb2
      unfold qW
      rw [ek]
      by_cases c1 : p.1 ≤ (j : Int) <;> by_cases c2 : (j : Int) ≤ p.2 <;> cases hq : qAny (sil.take k) j <;> simp [pD, c1, c2, atI, ixN, wD, wS]
    obtain ⟨s5', rfl⟩ := h4
    rw [Nat.zero_add, List.length_map, List.take_length] at h3
    refine ⟨_, _, rfl, .inl ?_, ⟨xs ++ [qW sil j w], .fz (.int j), .fz (wD (qW sil j w)), s5', rfl, by simp; omega, by rw [List.append_assoc]; exact ht⟩⟩
    simp [a1, h3, hln]
  obtain ⟨xs, s3, s4, s5, rfl, hx, ht⟩ := h2
  rw [Nat.zero_add, rangeD_len, List.drop_length, QW, List.append_nil] at ht
  simp [h1, ht]
end Sx

set_option Elab.async false
set_option linter.all false
set_option maxRecDepth 100000
set_option maxHeartbeats 2000000
namespace Sx
open PySem L2
abbrev bl (bs : List Bool) : D := .lst (bs.map .bl)
theorem atB {bs : List Bool} {s : Nat} {a : Bool} (h : bs[s]? = some a) : atI (bs.map D.bl) (s : Int) = some (.bl a) := by
  have hs := (List.getElem?_eq_some_iff.mp h).1
  obtain ⟨x, h1, h2⟩ := atI_nat' (xs := bs) (i := (s : Int)) (by omega) (by omega)
  rw [Int.toNat_natCast, h] at h2
  cases h2
  rw [atI_map, h1]
  rfl
theorem atN {bs : List Int} {s : Nat} {a : Int} (h : bs[s]? = some a) : atI (bs.map D.int) (s : Int) = some (.int a) := by
  have hs := (List.getElem?_eq_some_iff.mp h).1
  obtain ⟨x, h1, h2⟩ := atI_nat' (xs := bs) (i := (s : Int)) (by omega) (by omega)
  rw [Int.toNat_natCast, h] at h2
  cases h2
  rw [atI_map, h1]
  rfl
abbrev mks (g : Int) (bs : List Bool) : List Int := MK g (-1) (g + 1) bs
theorem marks_ok (g : Int) (bs : List Bool) (hl : bs.length ≤ 1000) : m__law_marks [bl bs, .int g] = some (.lst ((mks g bs).map .int)) := by
  unfold m__law_marks callM b__law_marks
  generalize hmb : mIfS _ _ _ = mb
  simp [show (bs.length : Int) ≤ 100000 by omega, show (-100000 : Int) ≤ bs.length by omega]
  generalize htot : mks g bs = tot
  obtain ⟨E', h1, h2⟩ := runFor_inv (mg := gM 5) (mb := mb) (fun j E => ∃ (ms : List Int) (nw n : Int) (s5 : Sl), E = [.fz (bl bs), .fz (.int g), .ow (ms.map .int), .fz (.int nw), .fz (.int n), s5] ∧ ms.length = j ∧ ms ++ MK g n (j - nw - 1) (bs.drop j) = tot)
    (rangeD 0 bs.length) 0 [.fz (bl bs), .fz (.int g), .ow [], .fz (.int (-g - 2)), .fz (.int (-1)), .un] ⟨[], _, _, .un, rfl, rfl, by
      rw [← htot]
      unfold mks
      have e : ((0 : Nat) : Int) - (-g - 2) - 1 = g + 1 := by omega
      rw [e]
      rfl⟩ fun j d E hj hI => by
    rw [Nat.zero_add] at hI ⊢
    obtain ⟨ms, nw, n, s5, rfl, hx, ht⟩ := hI
    obtain ⟨rfl, hjl⟩ := range_at hj
    obtain ⟨b, hb⟩ : ∃ b, bs[j]? = some b := ⟨_, List.getElem?_eq_getElem hjl⟩
    rw [drop_at hb] at ht
    have a1 := atB hb
    have hln : ms.length < 100000 := by omega
    cases b with
    | false =>
      rw [MK] at ht
      refine ⟨_, _, rfl, .inl ?_, ⟨ms ++ [-1], nw, n, .fz (.int (0 + j)), rfl, by simp; omega, ?_⟩⟩
      · subst hmb
        simp [a1, hln]
      · rw [List.append_assoc, ← ht]
        have e : ((j + 1 : Nat) : Int) - nw - 1 = (j : Int) - nw - 1 + 1 := by omega
        rw [e]
        rfl
    | true =>
      rw [MK] at ht
      have e : ((j + 1 : Nat) : Int) - (j : Int) - 1 = 0 := by omega
      by_cases hg : g < (j : Int) - nw - 1
      · rw [if_pos hg] at ht
        refine ⟨_, _, rfl, .inl ?_, ⟨ms ++ [n + 1], j, n + 1, .fz (.int (0 + j)), rfl, by simp; omega, ?_⟩⟩
        · subst hmb
          simp [a1, hln, hg]
        · rw [List.append_assoc, ← ht, e]
          rfl
      · rw [if_neg hg] at ht
        refine ⟨_, _, rfl, .inl ?_, ⟨ms ++ [n], j, n, .fz (.int (0 + j)), rfl, by simp; omega, ?_⟩⟩
        · subst hmb
          simp [a1, hln, hg]
        · rw [List.append_assoc, ← ht, e]
          rfl
  obtain ⟨ms, nw, n, s5, rfl, hx, ht⟩ := h2
  rw [Nat.zero_add, rangeD_len, List.drop_length, MK, List.append_nil] at ht
  simp [h1, ht]
theorem spans_ok (g : Int) (bs : List Bool) (hl : bs.length ≤ 1000) : m__law_spans [.lst ((mks g bs).map .int)] = some (.lst ((SP g 0 none bs).map pD)) := by
  have hml := MK_len g bs (-1) (g + 1)
  unfold m__law_spans callM b__law_spans
  generalize hmb : mIfS _ _ _ = mb
  simp [hml, show (bs.length : Int) ≤ 100000 by omega, show (-100000 : Int) ≤ bs.length by omega]
  generalize htot : SP g 0 none bs = tot
  generalize hM : mks g bs = M
  have hM' : M = MK g (-1) (g + 1) bs := hM.symm
  obtain ⟨E', h1, h2⟩ := runFor_inv (mg := gM 2) (mb := mb) (fun j E => ∃ (cl : List (Int × Int)) (cur : Option (Int × Int)) (d : Int) (s2 : Sl), E = [.fz (.lst (M.map .int)), .ow ((cl ++ cur.toList).map pD), s2] ∧ cl ++ SP g j cur (bs.drop j) = tot ∧ M.drop j = MK g ((cl ++ cur.toList).length - 1) d (bs.drop j) ∧
      cl.length ≤ j ∧ (cur = none → cl = [] ∧ g < d) ∧ ∀ f l, cur = some (f, l) → d = (j : Int) - l - 1)
    (rangeD 0 bs.length) 0 [.fz (.lst (M.map .int)), .ow [], .un] ⟨[], none, g + 1, .un, rfl, htot, hM', by simp, fun _ => ⟨rfl, by omega⟩, fun f l h => by cases h⟩ fun j d E hj hI => by
    rw [Nat.zero_add] at hI ⊢
    obtain ⟨cl, cur, d, s2, rfl, ht, hd, hcl, hn, hs⟩ := hI
    obtain ⟨rfl, hjl⟩ := range_at hj
    obtain ⟨b, hb⟩ : ∃ b, bs[j]? = some b := ⟨_, List.getElem?_eq_getElem hjl⟩
    have hjM : j < M.length := by rw [hM', hml]; exact hjl
    obtain ⟨m, hm⟩ : ∃ m, M[j]? = some m := ⟨_, List.getElem?_eq_getElem hjM⟩
    rw [drop_at hb] at ht hd
    rw [drop_at hm] at hd
    have a1 := atN hm
    cases b with
    | false =>
      rw [MK] at hd
      have hm2 := (List.cons.inj hd).1
      have hd2 := (List.cons.inj hd).2
      subst hm2
      have e : SP g j cur (false :: bs.drop (j + 1)) = SP g ((j + 1 : Nat) : Int) cur (bs.drop (j + 1)) := by
        cases cur <;> (rw [SP]; rfl)
      rw [e] at ht
      refine ⟨_, _, rfl, .inl ?_, ⟨cl, cur, d + 1, .fz (.int (0 + j)), rfl, ht, hd2, by omega, fun h => ⟨(hn h).1, by have := (hn h).2; omega⟩, fun f l h => by have := hs f l h; omega⟩⟩
      subst hmb
      simp [a1]
      omega
    | true =>
      rw [MK] at hd
      have hm2 := (List.cons.inj hd).1
      have hd2 := (List.cons.inj hd).2
      clear hd
      match cur with
      | none =>
        obtain ⟨rfl, hg⟩ := hn rfl
        rw [if_pos hg] at hm2 hd2
        rw [SP] at ht
        refine ⟨_, _, rfl, .inl ?_, ⟨[], some (j, j), 0, .fz (.int (0 + j)), rfl, ht, hd2, by simp, (fun h => by cases h), fun f l h => by cases h; omega⟩⟩
        subst hmb
        have hm3 : m = 0 := by rw [hm2]; rfl
        subst hm3
        simp [a1, pD]
      | some (f, l) =>
        have hd0 := hs f l rfl
        subst hd0
        rw [SP] at ht
        have c1 : (((cl ++ (some (f, l)).toList).length : Nat) : Int) = (cl.length : Int) + 1 := by simp
        rw [c1] at hm2 hd2
        have hlast : atI (cl.map pD ++ [pD (f, l)]) (cl.length : Int) = some (pD (f, l)) := by
          unfold atI ixN
          rw [if_pos (by omega), if_pos (by simp; omega), Int.toNat_natCast]
          show (cl.map pD ++ [pD (f, l)])[cl.length]? = _
          rw [List.getElem?_append_right (by simp)]
          simp
        by_cases hg : (j : Int) - l - 1 ≤ g
        · rw [if_pos hg] at ht
          rw [if_neg (by omega)] at hm2 hd2
          have hm3 : m = (cl.length : Int) := by omega
          subst hm3
          refine ⟨_, _, rfl, .inl ?_, ⟨cl, some (f, j), 0, .fz (.int (0 + j)), rfl, ht, ?_, by omega, (fun h => by cases h), fun f l h => by cases h; omega⟩⟩
          · subst hmb
            have hne : ¬ ((cl.length : Int) = (cl.length : Int) + 1) := by omega
            have hix : ixN (cl.length + 1) (cl.length : Int) = some cl.length := by
              unfold ixN
              rw [if_pos (by omega), if_pos (by omega), Int.toNat_natCast]
            have hset : ∀ a b : D, (cl.map pD ++ [a]).set cl.length b = cl.map pD ++ [b] := fun a b => by
              have e : cl.length = (cl.map pD).length := by rw [List.length_map]
              rw [e, List.set_append_right _ _ (Nat.le_refl _), Nat.sub_self]
              rfl
            have hl2 : atI (cl.map pD ++ [D.tup [.int f, .int l]]) (cl.length : Int) = some (.tup [.int f, .int l]) := hlast
            have h0 : atI [D.int f, D.int l] 0 = some (.int f) := rfl
            simp [a1, pD, hne]
            simp [hl2, h0, hix, hset]
          · have c2 : (((cl ++ (some (f, (j : Int))).toList).length : Nat) : Int) = (cl.length : Int) + 1 := by simp
            rw [c2]
            exact hd2
        · rw [if_neg hg] at ht
          rw [if_pos (by omega)] at hm2 hd2
          have hm3 : m = (cl.length : Int) + 1 := by omega
          subst hm3
          refine ⟨_, _, rfl, .inl ?_, ⟨cl ++ [(f, l)], some (j, j), 0, .fz (.int (0 + j)), rfl, by rw [List.append_assoc]; exact ht, ?_, by simp; omega, (fun h => by cases h), fun f l h => by cases h; omega⟩⟩
          · subst hmb
            have hln : cl.length + 1 < 100000 := by omega
            simp [a1, pD, hln]
          · have c2 : (((cl ++ [(f, l)] ++ (some ((j : Int), (j : Int))).toList).length : Nat) : Int) = (cl.length : Int) + 1 + 1 := by simp; omega
            rw [c2]
            have e : (cl.length : Int) + 1 - 1 + 1 = (cl.length : Int) + 1 + 1 - 1 := by omega
            rw [e] at hd2
            exact hd2
  obtain ⟨cl, cur, d, s2, rfl, ht, hd, hcl, hn, hs⟩ := h2
  rw [Nat.zero_add, rangeD_len, List.drop_length] at ht
  have hf : cl ++ cur.toList = tot := by
    rw [← ht]
    cases cur <;> rfl
  simp [h1, hf]
end Sx

set_option Elab.async false
set_option linter.all false
set_option maxRecDepth 100000
set_option maxHeartbeats 2000000
namespace Sx
open PySem L2
def stepS (w : Wd) (bs : List Bool) : List (List Bool) := (if w = .n then [] else [bs ++ [true]]) ++ (if w = .y then [] else [bs ++ [false]])
theorem stepS_len (w : Wd) (bs : List Bool) : (stepS w bs).length ≤ 2 := by cases w <;> simp [stepS]
theorem flat_len (w : Wd) : ∀ ss : List (List Bool), (ss.flatMap (stepS w)).length ≤ 2 * ss.length
  | [] => by simp
  | s :: ss => by
    have := flat_len w ss
    have := stepS_len w s
    rw [List.flatMap_cons, List.length_append, List.length_cons]
    omega
theorem mem_stepS {w : Wd} {ws : List Wd} {ss : List (List Bool)} (h : ∀ bs, bs ∈ ss ↔ Stl ws bs) : ∀ bs, bs ∈ ss.flatMap (stepS w) ↔ Stl (ws ++ [w]) bs := fun bs => by
  rw [List.mem_flatMap]
  constructor
  · rintro ⟨cs, h1, h2⟩
    have h3 := (h cs).mp h1
    unfold stepS at h2
    rcases List.mem_append.mp h2 with h2 | h2
    · split at h2
      · cases h2
      · rw [List.mem_singleton.mp h2]
        exact snoc_stl h3 (by cases w <;> simp_all [okB])
    · split at h2
      · cases h2
      · rw [List.mem_singleton.mp h2]
        exact snoc_stl h3 (by cases w <;> simp_all [okB])
  · intro h1
    obtain ⟨cs, b, rfl, h2, h3⟩ := stl_snoc h1
    refine ⟨cs, (h cs).mpr h2, ?_⟩
    cases w <;> cases b <;> simp_all [okB, stepS]
def sD (ss : List (List Bool)) : List D := ss.map fun bs => .lst (bs.map .bl)
theorem settle_ok (ws : List Wd) (hl : ws.length ≤ 12) : ∃ ss : List (List Bool), m__law_settlements [fl ws] = some (.lst (sD ss)) ∧ (∀ bs, bs ∈ ss ↔ Stl ws bs) ∧ ss.length ≤ 4096 := by
  have pw : ∀ j : Nat, j ≤ 12 → 2 ^ j ≤ 4096 := fun j hj => Nat.le_trans (Nat.pow_le_pow_right (by decide) hj) (by decide)
  unfold m__law_settlements callM b__law_settlements
  generalize hmb2 : mSeq (mIfS (fun E => ((mBin neD (mVarT 2) (mC (.str "no"))) E).bind blOf) _ _) _ = mb2
  generalize hmb : mSeq (mSetO 3 _) _ = mb
  simp
  obtain ⟨E', h1, h2⟩ := runFor_inv (mg := gM 2) (mb := mb) (fun j E => ∃ (ss : List (List Bool)) (s2 s3 s4 : Sl), E = [.fz (fl ws), .fz (.lst (sD ss)), s2, s3, s4] ∧ (∀ bs, bs ∈ ss ↔ Stl (ws.take j) bs) ∧ ss.length ≤ 2 ^ j)
    (ws.map wD) 0 [.fz (fl ws), .fz (.lst [.lst []]), .un, .un, .un] ⟨[[]], .un, .un, .un, rfl, fun bs => by cases bs <;> simp [Stl], by simp⟩ fun j d E hj hI => by
    rw [Nat.zero_add] at hI ⊢
    obtain ⟨ss, s2, s3, s4, rfl, hm, hn⟩ := hI
    obtain ⟨w, rfl, hw⟩ := map_at hj
    have hjl := (List.getElem?_eq_some_iff.mp hw).1
    have htk : ws.take (j + 1) = ws.take j ++ [w] := by rw [List.take_succ, hw]; rfl
    have hp := pw j (by omega)
    have hfl := flat_len w ss
    subst hmb
    generalize htot : ss.flatMap (stepS w) = tot at *
    obtain ⟨E2, h3, h4⟩ := runFor_inv (mg := gM 4) (mb := mb2) (fun k E => ∃ (ls : List (List Bool)) (s4 : Sl), E = [.fz (fl ws), .fz (.lst (sD ss)), .fz (wD w), .ow (sD ls), s4] ∧ ls ++ (ss.drop k).flatMap (stepS w) = tot)
      (sD ss) 0 [.fz (fl ws), .fz (.lst (sD ss)), .fz (wD w), .ow [], s4] ⟨[], s4, rfl, htot⟩ fun k d E hk hI => by
      rw [Nat.zero_add] at hI ⊢
      obtain ⟨ls, s4, rfl, ht⟩ := hI
      obtain ⟨bs, rfl, hb⟩ := map_at hk
      rw [drop_at hb, List.flatMap_cons, ← List.append_assoc] at ht
      have hbl : bs.length = j := by
        have := ((hm bs).mp (List.mem_of_getElem? hb)).len
        rw [List.length_take] at this
        omega
      have hlen : (ls ++ stepS w bs).length ≤ 8192 := by
        have : (ls ++ stepS w bs).length ≤ tot.length := by rw [← ht, List.length_append (as := ls ++ stepS w bs)]; omega
        omega
      have hb1 : bs.length + 1 ≤ 100000 := by omega
      have hls : ls.length ≤ 8192 := by rw [List.length_append] at hlen; omega
      refine ⟨_, _, rfl, .inl ?_, ⟨ls ++ stepS w bs, .fz (.lst (bs.map .bl)), rfl, ht⟩⟩
      subst hmb2
      have l1 : ls.length < 100000 := by omega
      have l2 : ls.length + 1 < 100000 := by omega
      have b1 : bs.length ≤ 99999 := by omega
      have b2 : bs.length < 100000 := by omega
      cases w <;> simp [stepS, sD, wD, wS, l1, l2, hb1, b1, b2]
    obtain ⟨ls, s4', rfl, ht⟩ := h4
    have hk : ss.length = (sD ss).length := by unfold sD; rw [List.length_map]
    rw [Nat.zero_add, ← hk, List.drop_length] at ht
    simp at ht
    subst ht
    refine ⟨_, _, rfl, .inl ?_, ⟨ls, .fz (wD w), .fz (.lst (sD ls)), s4', rfl, ?_, ?_⟩⟩
    · simp [h3]
    · rw [htk, ← htot]
      exact mem_stepS hm
    · rw [Nat.pow_succ]
      omega
  obtain ⟨ss, s2, s3, s4, rfl, hm, hn⟩ := h2
  rw [Nat.zero_add, List.length_map] at hm hn
  rw [List.take_length] at hm
  refine ⟨ss, ?_, hm, Nat.le_trans hn (pw _ hl)⟩
  simp [h1]
end Sx

set_option Elab.async false
set_option linter.all false
set_option maxRecDepth 100000
set_option maxHeartbeats 4000000
namespace Sx
open PySem L2
/-! ### the long lists: longest runs -/
theorem rg2_ok {a b : Int} (h1 : -100000 ≤ a ∧ a ≤ 100000) (h2 : -100000 ≤ b ∧ b ≤ 100000) : rg2 (.int a) (.int b) = some (rangeD a (b - a).toNat) := by
  unfold rg2
  simp
  omega
theorem longest_ok (p : Wd → Bool) (T : D) (hT : ∀ w, inD (wD w) T = some (.bl (p w))) (ws : List Wd) (s t : Nat) (hst : s ≤ t) (ht : t < ws.length) (hl : ws.length ≤ 1000) :
    m__law_longest [fl ws, T, .int s, .int t] = some (.int (LG 0 0 (((ws.map p).drop s).take (t + 1 - s)))) := by
  unfold m__law_longest callM b__law_longest
  generalize hmb : mSeq (mSet 5 (mBin addD _ _)) _ = mb
  simp [show ((s : Int)) ≤ 100000 by omega, show (-100000 : Int) ≤ s by omega, show (-100000 : Int) ≤ (t : Int) + 1 by omega, show (t : Int) + 1 ≤ 100000 by omega, show (t : Int) ≤ 99999 by omega]
  generalize htot : LG 0 0 (((ws.map p).drop s).take (t + 1 - s)) = tot
  obtain ⟨E', h1, h2⟩ := runFor_inv (mg := gM 6) (mb := mb) (fun j E => ∃ (m n : Int) (s6 : Sl), E = [.fz (fl ws), .fz T, .fz (.int s), .fz (.int t), .fz (.int m), .fz (.int n), s6] ∧ LG m n (((ws.map p).drop (s + j)).take (t + 1 - s - j)) = tot)
    (rangeD s (t + 1 - s)) 0 [.fz (fl ws), .fz T, .fz (.int s), .fz (.int t), .fz (.int 0), .fz (.int 0), .un] ⟨0, 0, .un, rfl, htot⟩ fun j d E hj hI => by
    rw [Nat.zero_add] at hI ⊢
    obtain ⟨m, n, s6, rfl, hh⟩ := hI
    obtain ⟨rfl, hjl⟩ := range_at hj
    obtain ⟨w, hw⟩ : ∃ w, ws[s + j]? = some w := ⟨_, List.getElem?_eq_getElem (by omega)⟩
    have hb : (ws.map p)[s + j]? = some (p w) := by rw [List.getElem?_map, hw]; rfl
    have e1 : t + 1 - s - j = (t + 1 - s - (j + 1)) + 1 := by omega
    rw [drop_at hb, e1, List.take_succ_cons] at hh
    have a1 := atW hw
    have c1 : ((s + j : Nat) : Int) = (s : Int) + (j : Int) := by omega
    rw [c1] at a1
    have a2 := hT w
    cases hp : p w with
    | true =>
      rw [hp] at a2 hh
      rw [LG] at hh
      refine ⟨_, _, rfl, .inl ?_, ⟨max m 0, 0, .fz (.int (s + j)), rfl, hh⟩⟩
      subst hmb
      have e3 : (if m < 0 then 0 else m) = max m 0 := by split <;> omega
      simp [a1]
      simp at a2
      simp [a2, e3]
    | false =>
      rw [hp] at a2 hh
      rw [LG] at hh
      refine ⟨_, _, rfl, .inl ?_, ⟨max m (n + 1), n + 1, .fz (.int (s + j)), rfl, hh⟩⟩
      subst hmb
      have e3 : (if m < n + 1 then n + 1 else m) = max m (n + 1) := by split <;> omega
      simp [a1]
      simp at a2
      simp [a2, e3]
  obtain ⟨m, n, s6, rfl, hh⟩ := h2
  rw [Nat.zero_add, rangeD_len] at hh
  have e : t + 1 - s - (t + 1 - s) = 0 := by omega
  rw [e, List.take_zero, LG] at hh
  subst hh
  simp [h1]

theorem in_loL (w : Wd) : inD (wD w) (.lst [.str "yes"]) = some (.bl (loB w)) :=
  congrArg (fun b => some (D.bl b)) (show ([("yes" : Str)] : List Str).contains (wS w) = loB w by cases w <;> decide +kernel)
theorem in_hiL (w : Wd) : inD (wD w) (.lst [.str "yes", .str "open"]) = some (.bl (hiB w)) :=
  congrArg (fun b => some (D.bl b)) (show ([("yes" : Str), "open"] : List Str).contains (wS w) = hiB w by cases w <;> decide +kernel)
/-- the word of two ticks, by their own words and what lies between -/
def wordC (a b : Wd) (hi lo : Bool) : Wd := if (a = .n ∨ b = .n) ∨ hi = false then .n else if (a = .o ∨ b = .o) ∨ lo = false then .o else .y
def seg (p : Wd → Bool) (ws : List Wd) (s t : Nat) : List Bool := ((ws.map p).drop (s + 1)).take (t - s)
theorem seg_full (p : Wd → Bool) (ws : List Wd) {s t : Nat} {a : Wd} (ha : ws[s]? = some a) (hst : s ≤ t) : ((ws.map p).drop s).take (t + 1 - s) = p a :: seg p ws s t := by
  have h : (ws.map p)[s]? = some (p a) := by rw [List.getElem?_map, ha]; rfl
  rw [drop_at h, show t + 1 - s = (t - s) + 1 by omega, List.take_succ_cons]
  rfl
theorem far_ok (g : Int) (hg : 0 ≤ g) (ws : List Wd) (s t : Nat) (a b : Wd) (ha : ws[s]? = some a) (hb : ws[t]? = some b) (hst : s ≤ t) (hl : ws.length ≤ 1000) :
    m__law_far_word [fl ws, .int s, .int t, .int g] = some (wD (wordC a b (CO g 0 (seg hiB ws s t)) (CO g 0 (seg loB ws s t)))) := by
  have ht := (List.getElem?_eq_some_iff.mp hb).1
  have l1 := longest_ok hiB (.lst [.str "yes", .str "open"]) in_hiL ws s t hst ht hl
  have l2 := longest_ok loB (.lst [.str "yes"]) in_loL ws s t hst ht hl
  rw [seg_full _ _ ha hst] at l1 l2
  have a1 := atW ha
  have a2 := atW hb
  have kk : ∀ bs : List Bool, CO g 0 bs = !decide (g < LG 0 0 (true :: bs)) := fun bs => by
    have := LG_le g hg (true :: bs) 0 0
    rw [CO] at this
    by_cases h : g < LG 0 0 (true :: bs)
    · rw [decide_eq_true h]
      cases hc : CO g 0 bs with
      | false => rfl
      | true => exact absurd (this.mpr ⟨hg, hc⟩) (by omega)
    · rw [decide_eq_false h]
      exact (this.mp (by omega)).2
  have k1 : hiB a = true → CO g 0 (seg hiB ws s t) = !decide (g < LG 0 0 (hiB a :: seg hiB ws s t)) := fun h => by
    rw [h]
    exact kk _
  have k2 : loB a = true → CO g 0 (seg loB ws s t) = !decide (g < LG 0 0 (loB a :: seg loB ws s t)) := fun h => by
    rw [h]
    exact kk _
  generalize LG 0 0 (hiB a :: seg hiB ws s t) = x1 at *
  generalize LG 0 0 (loB a :: seg loB ws s t) = x2 at *
  unfold m__law_far_word callM b__law_far_word wordC
  by_cases q1 : g < x1 <;> by_cases q2 : g < x2 <;> cases a <;> cases b <;> simp [hiB, loB, q1, q2] at k1 k2 <;> simp [wD, wS] at a1 a2 <;> simp [a1, a2, l1, l2, wD, wS, k1, k2, q1, q2, allStrs]
end Sx

set_option Elab.async false
set_option linter.all false
set_option maxRecDepth 100000
set_option maxHeartbeats 4000000
namespace Sx
open PySem L2
/-! ### the short lists: all settlements -/
def mD (g : Int) (ss : List (List Bool)) : D := .lst (ss.map fun bs => .lst ((mks g bs).map .int))
def sameB (g : Int) (s t : Nat) (bs : List Bool) : Bool := decide ((mks g bs).getD s 0 = (mks g bs).getD t 0) && decide (0 ≤ (mks g bs).getD s 0)
def nearK (k n : Nat) : Wd := if k = n then .y else if k = 0 then .n else .o
def nearW (g : Int) (ss : List (List Bool)) (s t : Nat) : Wd := nearK (ss.filter (sameB g s t)).length ss.length
theorem near_ok (g : Int) (ss : List (List Bool)) (n s t : Nat) (hn : ∀ bs ∈ ss, bs.length = n) (hs : s < n) (ht : t < n) (hl : ss.length ≤ 5000) : m__law_near_word [mD g ss, .int s, .int t] = some (wD (nearW g ss s t)) := by
  unfold m__law_near_word callM b__law_near_word nearW
  simp [mD, show ss.length ≤ 100000 by omega]
  generalize hmt : mAnd _ _ = mt
  rw [runComp_filt (β := Nat) (fun bs => D.lst ((mks g bs).map .int)) (fun bs => D.lst ((mks g bs).map .int)) (sameB g s t) ss fun bs hb => by
    have hb2 := hn bs hb
    have hml : (mks g bs).length = n := by rw [MK_len, hb2]
    have e1 : (mks g bs)[s]? = some ((mks g bs).getD s 0) := by
      rw [List.getD_eq_getElem?_getD, List.getElem?_eq_getElem (by omega)]
      rfl
    have e2 : (mks g bs)[t]? = some ((mks g bs).getD t 0) := by
      rw [List.getD_eq_getElem?_getD, List.getElem?_eq_getElem (by omega)]
      rfl
    have a1 := atN e1
    have a2 := atN e2
    refine ⟨_, rfl, ?_, fun _ => rfl⟩
    subst hmt
    unfold sameB
    generalize (mks g bs).getD s 0 = m1 at *
    generalize (mks g bs).getD t 0 = m2 at *
    by_cases q : m1 = m2
    · subst q
      simp [a1, a2]
    · simp [a1, a2, q]]
  clear hmt
  generalize hk : (ss.filter (sameB g s t)).length = k
  have hk2 : k ≤ ss.length := by rw [← hk]; exact List.length_filter_le ..
  by_cases c1 : k = ss.length
  · have c1' : (k : Int) = (ss.length : Int) := by omega
    simp [hk, c1', nearK, c1, wD, wS]
  · have c1' : ¬ (k : Int) = (ss.length : Int) := by omega
    by_cases c2 : k = 0
    · subst c2
      have c3 : ¬ (0 : Int) = (ss.length : Int) := by omega
      simp [hk, c1, c3, nearK, wD, wS]
    · simp [hk, c1, c1', c2, nearK, wD, wS]
theorem MK_drop (g : Int) : ∀ (bs : List Bool) (n d : Int) (s : Nat) (m : Int), bs[s]? = some true → (MK g n d bs)[s]? = some m → ∀ k, (MK g n d bs)[s + 1 + k]? = (MK g m 0 (bs.drop (s + 1)))[k]?
  | false :: bs, n, d, 0, m, hb, _, k => by simp at hb
  | false :: bs, n, d, s + 1, m, hb, hm, k => by
    rw [MK] at hm ⊢
    have := MK_drop g bs n (d + 1) s m (by simpa using hb) (by simpa using hm) k
    have e : s + 1 + 1 + k = s + 1 + k + 1 := by omega
    rw [e, List.getElem?_cons_succ, List.drop_succ_cons]
    exact this
  | true :: bs, n, d, 0, m, hb, hm, k => by
    rw [MK] at hm ⊢
    have hm2 : (if g < d then n + 1 else n) = m := by simpa using hm
    rw [hm2]
    have e : 0 + 1 + k = k + 1 := by omega
    rw [e, List.getElem?_cons_succ]
    rfl
  | true :: bs, n, d, s + 1, m, hb, hm, k => by
    rw [MK] at hm ⊢
    have := MK_drop g bs _ 0 s m (by simpa using hb) (by simpa using hm) k
    have e : s + 1 + 1 + k = s + 1 + k + 1 := by omega
    rw [e, List.getElem?_cons_succ, List.drop_succ_cons]
    exact this
  | [], _, _, _, _, hb, _, _ => by simp at hb
def segB (bs : List Bool) (s t : Nat) : List Bool := (bs.drop (s + 1)).take (t - s)
theorem same_iff (g : Int) (hg : 0 ≤ g) (bs : List Bool) (s t : Nat) (hst : s ≤ t) (ht : t < bs.length) : sameB g s t bs = true ↔ (bs[s]? = some true ∧ bs[t]? = some true ∧ CO g 0 (segB bs s t) = true) := by
  have hml : (mks g bs).length = bs.length := MK_len ..
  have e1 : (mks g bs)[s]? = some ((mks g bs).getD s 0) := by
    rw [List.getD_eq_getElem?_getD, List.getElem?_eq_getElem (by omega)]
    rfl
  have e2 : (mks g bs)[t]? = some ((mks g bs).getD t 0) := by
    rw [List.getD_eq_getElem?_getD, List.getElem?_eq_getElem (by omega)]
    rfl
  unfold sameB
  rw [Bool.and_eq_true, decide_eq_true_iff, decide_eq_true_iff]
  generalize (mks g bs).getD s 0 = m at *
  generalize (mks g bs).getD t 0 = m2 at *
  obtain ⟨b, hb⟩ : ∃ b, bs[s]? = some b := ⟨_, List.getElem?_eq_getElem (by omega)⟩
  obtain ⟨c, hc⟩ : ∃ b, bs[t]? = some b := ⟨_, List.getElem?_eq_getElem (by omega)⟩
  rw [hb, hc]
  cases b with
  | false =>
    have := MK_false g bs (-1) (g + 1) s hb
    rw [e1] at this
    cases this
    simp
  | true =>
    have h1 := (MK_ge g bs (-1) (g + 1) s m e1 hb).2 (by omega)
    cases c with
    | false =>
      have := MK_false g bs (-1) (g + 1) t hc
      rw [e2] at this
      cases this
      simp
      omega
    | true =>
      by_cases h : s = t
      · subst h
        rw [e1] at e2
        cases e2
        simp [segB, CO]
        omega
      · obtain ⟨k, rfl⟩ : ∃ k, t = s + 1 + k := ⟨t - s - 1, by omega⟩
        have h2 := MK_drop g bs (-1) (g + 1) s m hb e1 k
        rw [e2] at h2
        have h3 : (bs.drop (s + 1))[k]? = some true := by rw [List.getElem?_drop]; exact hc
        have h4 := MK_same g (bs.drop (s + 1)) m 0 k m2 hg hg h2.symm h3
        have e : s + 1 + k - s = k + 1 := by omega
        unfold segB
        rw [e]
        constructor
        · rintro ⟨p, q⟩
          exact ⟨rfl, rfl, h4.mp p.symm⟩
        · rintro ⟨_, _, p⟩
          exact ⟨(h4.mpr p).symm, by omega⟩
theorem seg_segB (p : Wd → Bool) (ws : List Wd) (s t : Nat) : seg p ws s t = segB (ws.map p) s t := rfl
theorem Stl.segB {ws : List Wd} {bs : List Bool} (h : Stl ws bs) (s t : Nat) : Stl ((ws.drop (s + 1)).take (t - s)) (segB bs s t) := (h.drop (s + 1)).take (t - s)
theorem segB_map (p : Wd → Bool) (ws : List Wd) (s t : Nat) : segB (ws.map p) s t = ((ws.drop (s + 1)).take (t - s)).map p := by
  unfold Sx.segB
  rw [List.map_take, List.map_drop]
theorem co_lo {g : Int} {ws : List Wd} {bs : List Bool} (h : Stl ws bs) (s t : Nat) (hc : CO g 0 (segB (ws.map loB) s t) = true) : CO g 0 (segB bs s t) = true := by
  rw [segB_map] at hc
  exact CO_lo g _ _ 0 0 (h.segB s t) (by omega) (by omega) hc
theorem co_hi {g : Int} {ws : List Wd} {bs : List Bool} (h : Stl ws bs) (s t : Nat) (hc : CO g 0 (segB bs s t) = true) : CO g 0 (segB (ws.map hiB) s t) = true := by
  rw [segB_map]
  exact CO_hi g _ _ 0 0 (h.segB s t) (by omega) (by omega) hc
theorem near_word (g : Int) (hg : 0 ≤ g) (ws : List Wd) (ss : List (List Bool)) (hss : ∀ bs, bs ∈ ss ↔ Stl ws bs) (s t : Nat) (a b : Wd) (ha : ws[s]? = some a) (hb : ws[t]? = some b) (hst : s ≤ t) :
    nearW g ss s t = wordC a b (CO g 0 (seg hiB ws s t)) (CO g 0 (seg loB ws s t)) := by
  have ht := (List.getElem?_eq_some_iff.mp hb).1
  have same : ∀ bs, Stl ws bs → (sameB g s t bs = true ↔ (bs[s]? = some true ∧ bs[t]? = some true ∧ CO g 0 (segB bs s t) = true)) := fun bs h => same_iff g hg bs s t hst (by rw [← h.len]; exact ht)
  have lo := same _ (stl_lo ws)
  have hi := same _ (stl_hi ws)
  rw [List.getElem?_map, List.getElem?_map, ha, hb] at lo hi
  have all : ((ss.filter (sameB g s t)).length = ss.length) ↔ ∀ bs ∈ ss, sameB g s t bs = true := by
    rw [List.length_filter_eq_length_iff]
  have non : ((ss.filter (sameB g s t)).length = 0) ↔ ∀ bs ∈ ss, ¬ sameB g s t bs = true := by
    rw [List.length_eq_zero_iff, List.filter_eq_nil_iff]
  rw [show CO g 0 (seg hiB ws s t) = CO g 0 (segB (ws.map hiB) s t) from rfl, show CO g 0 (seg loB ws s t) = CO g 0 (segB (ws.map loB) s t) from rfl]
  unfold nearW nearK wordC
  simp only [all, non]
  have m1 := (hss _).mpr (stl_lo ws)
  have m2 := (hss _).mpr (stl_hi ws)
  by_cases c1 : (a = .n ∨ b = .n) ∨ CO g 0 (segB (ws.map hiB) s t) = false
  · rw [if_pos c1]
    have hn : ∀ bs ∈ ss, ¬ sameB g s t bs = true := fun bs h => by
      have h1 := (hss bs).mp h
      rw [same bs h1]
      rintro ⟨p, q, r⟩
      rcases c1 with (rfl | rfl) | c1
      · have := h1.at ha p
        simp [okB] at this
      · have := h1.at hb q
        simp [okB] at this
      · rw [co_hi h1 s t r] at c1
        cases c1
    rw [if_neg (fun h => hn _ m1 (h _ m1)), if_pos hn]
  · rw [if_neg c1]
    have c3 : a ≠ .n ∧ b ≠ .n ∧ CO g 0 (segB (ws.map hiB) s t) = true := ⟨fun h => c1 (.inl (.inl h)), fun h => c1 (.inl (.inr h)), by
      cases h : CO g 0 (segB (ws.map hiB) s t) with
      | true => rfl
      | false => exact absurd (.inr h) c1⟩
    have hs : sameB g s t (ws.map hiB) = true := hi.mpr ⟨by simp [hiB, c3.1], by simp [hiB, c3.2.1], c3.2.2⟩
    have hnn : ¬ ∀ bs ∈ ss, ¬ sameB g s t bs = true := fun h => h _ m2 hs
    by_cases c2 : (a = .o ∨ b = .o) ∨ CO g 0 (segB (ws.map loB) s t) = false
    · rw [if_pos c2, if_neg (fun h => ?_), if_neg hnn]
      obtain ⟨p, q, r⟩ := lo.mp (h _ m1)
      rcases c2 with (rfl | rfl) | c2
      · simp [loB] at p
      · simp [loB] at q
      · rw [c2] at r
        cases r
    · rw [if_neg c2, if_pos fun bs h => ?_]
      have h1 := (hss bs).mp h
      have ea : a = .y := by
        cases a
        · rfl
        · exact absurd rfl c3.1
        · exact absurd (.inl (.inl rfl)) c2
      have eb : b = .y := by
        cases b
        · rfl
        · exact absurd rfl c3.2.1
        · exact absurd (.inl (.inr rfl)) c2
      subst ea eb
      have hlo : CO g 0 (segB (ws.map loB) s t) = true := by
        cases h : CO g 0 (segB (ws.map loB) s t) with
        | true => rfl
        | false => exact absurd (.inr h) c2
      have hsl : s < bs.length := by rw [← h1.len]; omega
      have htl : t < bs.length := by rw [← h1.len]; omega
      have p1 := h1.at ha (List.getElem?_eq_getElem hsl)
      have p2 := h1.at hb (List.getElem?_eq_getElem htl)
      rw [same bs h1, List.getElem?_eq_getElem hsl, List.getElem?_eq_getElem htl]
      exact ⟨congrArg some p1, congrArg some p2, co_lo h1 s t hlo⟩
theorem in_iff (g : Int) (hg : 0 ≤ g) (p : Wd → Bool) (ws : List Wd) (s t : Nat) (a b : Wd) (ha : ws[s]? = some a) (hb : ws[t]? = some b) (hst : s ≤ t) (h1 : p a = true) (h2 : p b = true) : inAny (spD1 p g ws) s t = CO g 0 (seg p ws s t) := by
  have e1 : (ws.map p)[s]? = some true := by rw [List.getElem?_map, ha, ← h1]; rfl
  have e2 : (ws.map p)[s + (t - s)]? = some true := by
    rw [show s + (t - s) = t by omega, List.getElem?_map, hb, ← h2]
    rfl
  have := in1 g (ws.map p) 0 none s (t - s) hg (fun c h => by cases h) e1 e2
  rw [Bool.eq_iff_iff]
  unfold inAny
  rw [List.any_eq_true]
  constructor
  · rintro ⟨q, h3, h4⟩
    rw [Bool.and_eq_true, decide_eq_true_iff, decide_eq_true_iff] at h4
    exact this.mp ⟨q, h3, by omega, by omega⟩
  · intro h
    obtain ⟨q, h3, h4, h5⟩ := this.mpr h
    refine ⟨q, h3, ?_⟩
    rw [Bool.and_eq_true, decide_eq_true_iff, decide_eq_true_iff]
    omega
theorem joined_word (g : Int) (hg : 0 ≤ g) (ws : List Wd) (s t : Nat) (a b : Wd) (ha : ws[s]? = some a) (hb : ws[t]? = some b) (hst : s ≤ t) :
    jW g ws s t = wordC a b (CO g 0 (seg hiB ws s t)) (CO g 0 (seg loB ws s t)) := by
  unfold jW wordC
  rw [ha, hb]
  have k1 : a = .y → b = .y → inAny (spD1 loB g ws) s t = CO g 0 (seg loB ws s t) := fun x y => in_iff g hg loB ws s t a b ha hb hst (by rw [x]; rfl) (by rw [y]; rfl)
  have k2 : a ≠ .n → b ≠ .n → inAny (spD1 hiB g ws) s t = CO g 0 (seg hiB ws s t) := fun x y => in_iff g hg hiB ws s t a b ha hb hst (by simp [hiB, x]) (by simp [hiB, y])
  have k3 : CO g 0 (seg loB ws s t) = true → CO g 0 (seg hiB ws s t) = true := fun h => co_hi (stl_lo ws) s t h
  generalize inAny (spD1 loB g ws) s t = x1 at *
  generalize inAny (spD1 hiB g ws) s t = x2 at *
  generalize CO g 0 (seg loB ws s t) = x3 at *
  generalize CO g 0 (seg hiB ws s t) = x4 at *
  cases a <;> cases b <;> simp at k1 k2 ⊢ <;> cases x3 <;> cases x4 <;> simp_all
end Sx

set_option Elab.async false
set_option linter.all false
set_option maxRecDepth 100000
set_option maxHeartbeats 4000000
namespace Sx
open PySem L2
/-! ### the long lists: numbers by distance -/
def nextL (G : Nat) (inf : Int) (L : List Int) (f mm : Int) : Wd → List Int
  | .n => inf :: (L.take G ++ [mm])
  | .o => f :: (L.take G ++ [mm])
  | .y => f :: List.replicate (G + 1) inf
section
variable {G : Nat} {inf : Int} {L : List Int} {f mm : Int}
theorem nextL_len (hl : L.length = G + 2) (w : Wd) : (nextL G inf L f mm w).length = G + 2 := by
  cases w <;> simp [nextL, hl] <;> omega
theorem nextL_0 (w : Wd) : (nextL G inf L f mm w).getD 0 0 = if w = .n then inf else f := by
  cases w <;> simp [nextL]
theorem nextL_k (hl : L.length = G + 2) (w : Wd) (k : Nat) (hk : k < G) : (nextL G inf L f mm w).getD (k + 1) 0 = if w = .y then inf else L.getD k 0 := by
  cases w with
  | y => simp [nextL, List.getD_eq_getElem?_getD, List.getElem?_replicate, show k < G + 1 by omega]
  | n =>
    simp [nextL, List.getD_eq_getElem?_getD, List.getElem?_append, hl, show k < G by omega, show min G (G + 2) = G by omega, List.getElem?_take_of_lt]
    rw [List.getElem?_eq_getElem (by omega)]
    rfl
  | o =>
    simp [nextL, List.getD_eq_getElem?_getD, List.getElem?_append, hl, show k < G by omega, show min G (G + 2) = G by omega, List.getElem?_take_of_lt]
    rw [List.getElem?_eq_getElem (by omega)]
    rfl
theorem nextL_G (hl : L.length = G + 2) (w : Wd) : (nextL G inf L f mm w).getD (G + 1) 0 = if w = .y then inf else mm := by
  cases w with
  | y => simp [nextL, List.getD_eq_getElem?_getD, List.getElem?_replicate]
  | n => simp [nextL, List.getD_eq_getElem?_getD, List.getElem?_append, hl, show min G (G + 2) = G by omega]
  | o => simp [nextL, List.getD_eq_getElem?_getD, List.getElem?_append, hl, show min G (G + 2) = G by omega]
end
def plusL (G : Nat) (L : List Int) : List Int := (List.range (G + 2)).map fun d => L.getD d 0 + if d = G + 1 then 1 else 0
theorem plusL_mem {G : Nat} {L : List Int} {x : Int} : x ∈ plusL G L ↔ ∃ d, d < G + 2 ∧ x = L.getD d 0 + if d = G + 1 then 1 else 0 := by
  unfold plusL
  rw [List.mem_map]
  constructor
  · rintro ⟨d, h1, rfl⟩
    exact ⟨d, List.mem_range.mp h1, rfl⟩
  · rintro ⟨d, h1, rfl⟩
    exact ⟨d, List.mem_range.mpr h1, rfl⟩
theorem mem_getD {L : List Int} {n : Nat} (hl : L.length = n) {x : Int} : x ∈ L ↔ ∃ d, d < n ∧ x = L.getD d 0 := by
  rw [List.mem_iff_getElem?]
  constructor
  · rintro ⟨d, h⟩
    exact ⟨d, by rw [← hl]; exact (List.getElem?_eq_some_iff.mp h).1, by rw [List.getD_eq_getElem?_getD, h]; rfl⟩
  · rintro ⟨d, h1, rfl⟩
    refine ⟨d, ?_⟩
    rw [List.getD_eq_getElem?_getD, List.getElem?_eq_getElem (by omega)]
    rfl
theorem atG {L : List Int} {d : Nat} (h : d < L.length) : atI (L.map D.int) (d : Int) = some (.int (L.getD d 0)) := by
  refine atN ?_
  rw [List.getD_eq_getElem?_getD, List.getElem?_eq_getElem h]
  rfl
theorem cut_take (L : List Int) (G : Nat) (h : G ≤ L.length) : cutD (L.map D.int) none (some (G : Int)) = (L.take G).map D.int := by
  rw [cutD_map]
  unfold cutG
  rw [sIx_pos (by omega), HT.sIx_none]
  simp
theorem minif (a b : Int) : (if b < a then b else a) = min a b := by split <;> omega
theorem maxif (a b : Int) : (if a < b then b else a) = max a b := by split <;> omega
theorem comp_plus (G : Nat) (L : List Int) (hl : L.length = G + 2) {mg : En → D → Option En} {me : En → Option D} {E0 : En}
    (hg : ∀ d : Nat, d < G + 2 → ∃ E1, mg E0 (.int (0 + (d : Int))) = some E1 ∧ me E1 = some (.int (L.getD d 0 + if d = G + 1 then 1 else 0))) :
    runComp mg mYes me E0 (rangeD 0 (G + 2)) = some ((plusL G L).map D.int) := by
  rw [rangeD_eq]
  have := runComp_map (mg := mg) (mt := mYes) (me := me) (E0 := E0) (fun (i : Nat) => D.int (0 + (i : Int))) (fun d => D.int (L.getD d 0 + if d = G + 1 then 1 else 0)) (List.range (G + 2)) fun d hd => by
    obtain ⟨E1, h1, h2⟩ := hg d (List.mem_range.mp hd)
    exact ⟨E1, h1, rfl, h2⟩
  rw [this]
  unfold plusL
  rw [List.map_map]
  rfl
def eR (ws : List Wd) (G : Nat) (L T : List Int) (s4 s5 s6 s7 : Sl) : En := [.fz (fl ws), .fz (.int G), .ow (L.map .int), .ow (T.map .int), s4, s5, s6, s7]
theorem rangeDP_ok (G : Nat) (hG : G ≤ 50000) (ws : List Wd) (hl : ws.length < 1000) : m__law_range [fl ws, .int G] = some (.tup [.int (LW G (G + 1) false ws), .int (MW G (G + 1) ws)]) := by
  have g1 : (G : Int) + 1 ≤ 100000 := by omega
  have g2 : ¬ (100000 : Int) < (G : Int) + 1 := by omega
  have g3 : (G : Int) ≤ 99999 := by omega
  have g4 : (-100000 : Int) ≤ (G : Int) + 1 := by omega
  have g5 : ((G : Int) + 1).toNat = G + 1 := by omega
  have g6 : G + 1 ≤ 100000 := by omega
  have g7 : G + 1 + 1 ≤ 100000 := by omega
  have g8 : G ≤ 99999 := by omega
  have g9 : (-100000 : Int) ≤ (G : Int) + 2 := by omega
  have g10 : (G : Int) + 2 ≤ 100000 := by omega
  have g11 : ((G : Int) + 2).toNat = G + 2 := by omega
  have g12 : G + 2 ≤ 100000 := by omega
  have g13 : G ≤ 99998 := by omega
  have g14 : 1 + G ≤ 100000 := by omega
  have g15 : 1 + G + 1 ≤ 100000 := by omega
  have g16 : 1 + G ≤ 99999 := by omega
  unfold m__law_range callM b__law_range
  generalize hmb : mSeq (mSet 5 _) _ = mb
  simp [rep_one, g1, g2, g3, g4, g5, g6, g7, g8, g13]
  obtain ⟨E', h1, h2⟩ := runFor_inv (mg := gM 4) (mb := mb) (fun j E => ∃ (L T : List Int) (s4 s5 s6 s7 : Sl), E = eR ws G L T s4 s5 s6 s7 ∧ ILow G (ws.take j) L ∧ ITop G (ws.take j) T)
    (ws.map wD) 0 (eR ws G (List.replicate (G + 1) 1000 ++ [0]) (List.replicate (G + 1) (-1000) ++ [0]) .un .un .un .un) ⟨_, _, .un, .un, .un, .un, rfl, by
      rw [List.take_zero]
      exact ILow.start G (by simp) (fun k hk => by simp [List.getD_eq_getElem?_getD, List.getElem?_append, hk, List.getElem?_replicate]) (by simp [List.getD_eq_getElem?_getD, List.getElem?_append]), by
      rw [List.take_zero]
      exact ITop.start G (by simp) (fun k hk => by simp [List.getD_eq_getElem?_getD, List.getElem?_append, hk, List.getElem?_replicate]) (by simp [List.getD_eq_getElem?_getD, List.getElem?_append])⟩ fun j d E hj hI => by
    rw [Nat.zero_add] at hI ⊢
    obtain ⟨L, T, s4, s5, s6, s7, rfl, hL, hT⟩ := hI
    obtain ⟨w, rfl, hw⟩ := map_at hj
    have htk : ws.take (j + 1) = ws.take j ++ [w] := by rw [List.take_succ, hw]; rfl
    have lL := hL.len
    have lT := hT.len
    obtain ⟨f, hf⟩ := minL_def (ns := plusL G L) (by simp [plusL])
    obtain ⟨t, ht⟩ := maxL_def (ns := plusL G T) (by simp [plusL])
    obtain ⟨f1, f2⟩ := minL_ok hf
    obtain ⟨t1, t2⟩ := maxL_ok ht
    have aG := atG (L := L) (d := G) (by omega)
    have aG1 := atG (L := L) (d := G + 1) (by omega)
    have bG := atG (L := T) (d := G) (by omega)
    have bG1 := atG (L := T) (d := G + 1) (by omega)
    have c1 : ((G + 1 : Nat) : Int) = (G : Int) + 1 := by omega
    rw [c1] at aG1 bG1
    have cL := cut_take L G (by omega)
    have cT := cut_take T G (by omega)
    refine ⟨eR ws G L T (.fz (wD w)) s5 s6 s7, _, rfl, .inl ?_, ⟨nextL G 1000 L f (min (L.getD G 0) (L.getD (G + 1) 0)) w, nextL G (-1000) T t (max (T.getD G 0) (T.getD (G + 1) 0)) w, .fz (wD w), .fz (.int f), .fz (.int t), s7, rfl, ?_, ?_⟩⟩
    · subst hmb
      rw [seq_nx (eR ws G L T (.fz (wD w)) (.fz (.int f)) s6 s7) (by
        simp [eR, g10, g9, g11, rangeD_len, g12]
        rw [comp_plus G L lL fun d hd => ⟨_, rfl, by
          have a := atG (L := L) (d := d) (by omega)
          by_cases e : d = G + 1
          · subst e
            rw [c1] at a
            simp [a]
          · have e2 : ¬ (d : Int) = (G : Int) + 1 := by omega
            simp [a, e, e2]⟩]
        simp [allInts_map, hf])]
      rw [seq_nx (eR ws G L T (.fz (wD w)) (.fz (.int f)) (.fz (.int t)) s7) (by
        simp [eR, g10, g9, g11, rangeD_len, g12]
        rw [comp_plus G T lT fun d hd => ⟨_, rfl, by
          have a := atG (L := T) (d := d) (by omega)
          by_cases e : d = G + 1
          · subst e
            rw [c1] at a
            simp [a]
          · have e2 : ¬ (d : Int) = (G : Int) + 1 := by omega
            simp [a, e, e2]⟩]
        simp [allInts_map, ht])]
      rw [seq_nx (eR ws G (1000 :: (L.take G ++ [min (L.getD G 0) (L.getD (G + 1) 0)])) T (.fz (wD w)) (.fz (.int f)) (.fz (.int t)) s7) (by
        simp [eR, cL, lL, aG, aG1, minif, g12, g14, g15, g16])]
      rw [seq_nx (eR ws G (1000 :: (L.take G ++ [min (L.getD G 0) (L.getD (G + 1) 0)])) (-1000 :: (T.take G ++ [max (T.getD G 0) (T.getD (G + 1) 0)])) (.fz (wD w)) (.fz (.int f)) (.fz (.int t)) s7) (by
        simp [eR, cT, lT, bG, bG1, maxif, g12, g14, g15, g16])]
      cases w with
      | n => simp [eR, wD, wS, nextL]
      | o => simp [eR, wD, wS, nextL, ixN]
      | y =>
        simp [eR, wD, wS, nextL, ixN, rep_one, g9, g10, g11, g12]
        exact ⟨rfl, rfl⟩
    · rw [htk]
      exact hL.step (plusL_mem.mp f1) (fun d hd => f2 _ (plusL_mem.mpr ⟨d, hd, rfl⟩)) (nextL_len lL w) (nextL_0 w) (nextL_k lL w) (nextL_G lL w)
    · rw [htk]
      exact hT.step (plusL_mem.mp t1) (fun d hd => t2 _ (plusL_mem.mpr ⟨d, hd, rfl⟩)) (nextL_len lT w) (nextL_0 w) (nextL_k lT w) (nextL_G lT w)
  obtain ⟨L, T, s4, s5, s6, s7, rfl, hL, hT⟩ := h2
  rw [Nat.zero_add, List.length_map, List.take_length] at hL hT
  have lL := hL.len
  have lT := hT.len
  obtain ⟨f, hf⟩ := minL_def (ns := L) (by intro h; rw [h] at lL; simp at lL)
  obtain ⟨t, ht⟩ := maxL_def (ns := T) (by intro h; rw [h] at lT; simp at lT)
  obtain ⟨f1, f2⟩ := minL_ok hf
  obtain ⟨t1, t2⟩ := maxL_ok ht
  have r1 := hL.fin hl ((mem_getD lL).mp f1) fun k hk => f2 _ ((mem_getD lL).mpr ⟨k, hk, rfl⟩)
  have r2 := hT.fin ((mem_getD lT).mp t1) fun k hk => t2 _ ((mem_getD lT).mpr ⟨k, hk, rfl⟩)
  simp [eR] at h1
  simp [h1, allInts_map, hf, ht, r1, r2]
end Sx

set_option Elab.async false
set_option linter.all false
set_option maxRecDepth 100000
set_option maxHeartbeats 4000000
namespace Sx
open PySem L2
theorem kit_tt : kitB "tuple" "tuple" = some true := by decide +kernel
theorem kit_ll : kitB "list" "list" = some true := by decide +kernel
theorem kit_ss : kitB "str" "str" = some true := by decide +kernel
theorem number_ok (i : Int) : m__law_is_number [.int i] = some (.bl true) := by
  unfold m__law_is_number callM b__law_is_number
  simp [kit_ii, kit_ib]
theorem pair_ok (p : Int × Int) : m__law_is_pair [pD p, pD p] = some (.bl true) := by
  have h1 := number_ok p.1
  have h2 := number_ok p.2
  unfold m__law_is_pair callM b__law_is_pair
  simp [pD, kit_tt, atI, ixN, h1, h2]
theorem pairs_ok (ps : List (Int × Int)) (hl : ps.length ≤ 5000) : m__law_are_pairs [.lst (ps.map pD), .lst (ps.map pD)] = some (.bl true) := by
  unfold m__law_are_pairs callM b__law_are_pairs
  generalize hmb : mIfS (mNot (fun E => ((mCall 2 m__law_is_pair _) E).bind truD)) _ _ = mb
  simp [kit_ll, show (ps.length : Int) ≤ 100000 by omega, show (-100000 : Int) ≤ ps.length by omega]
  obtain ⟨E', h1, h2⟩ := runFor_inv (mg := gM 2) (mb := mb) (fun j E => ∃ s : Sl, E = [.fz (.lst (ps.map pD)), .fz (.lst (ps.map pD)), s]) (rangeD 0 ps.length) 0 [.fz (.lst (ps.map pD)), .fz (.lst (ps.map pD)), .un] ⟨_, rfl⟩ fun j d E hj hI => by
    obtain ⟨s, rfl⟩ := hI
    obtain ⟨rfl, hjl⟩ := range_at hj
    obtain ⟨x, h1, h2⟩ := atI_mapD (f := pD) (xs := ps) (i := (j : Int)) (by omega) (by omega)
    refine ⟨_, _, rfl, .inl ?_, ⟨.fz (.int (0 + j)), rfl⟩⟩
    subst hmb
    simp [h1, pair_ok]
  obtain ⟨s, rfl⟩ := h2
  simp [h1]
theorem words_ok (ws : List Wd) (hl : ws.length ≤ 5000) : m__law_are_words [fl ws, fl ws] = some (.bl true) := by
  unfold m__law_are_words callM b__law_are_words
  generalize hmb : mIfS (mOr (mNot (fun E => ((mUn (isiD "str") _) E).bind truD)) _) _ _ = mb
  simp [kit_ll, show (ws.length : Int) ≤ 100000 by omega, show (-100000 : Int) ≤ ws.length by omega]
  obtain ⟨E', h1, h2⟩ := runFor_inv (mg := gM 2) (mb := mb) (fun j E => ∃ s : Sl, E = [.fz (fl ws), .fz (fl ws), s]) (rangeD 0 ws.length) 0 [.fz (fl ws), .fz (fl ws), .un] ⟨_, rfl⟩ fun j d E hj hI => by
    obtain ⟨s, rfl⟩ := hI
    obtain ⟨rfl, hjl⟩ := range_at hj
    obtain ⟨x, h1, h2⟩ := atI_mapD (f := wD) (xs := ws) (i := (j : Int)) (by omega) (by omega)
    refine ⟨_, _, rfl, .inl ?_, ⟨.fz (.int (0 + j)), rfl⟩⟩
    subst hmb
    simp [h1, wD, kit_ss]
  obtain ⟨s, rfl⟩ := h2
  simp [h1]
/-- what is due -/
def tW (g : Int) (ws : List Wd) (p : Nat × Nat) : D := .tup [.int p.1, .int p.2, wD (jW g ws p.1 p.2)]
structure Due (g : Int) (ws : List Wd) (d : D) : Prop where
  ex : ∃ tr : List (Nat × Nat), d = .tup [.lst ((spD1 loB g ws).map pD), .lst ((spD1 hiB g ws).map pD), pD (LW g (g + 1) false ws, MW g (g + 1) ws), .lst (tr.map (tW g ws))] ∧ (∀ p ∈ tr, p.1 < ws.length ∧ p.2 < ws.length)
theorem spD1_len (p : Wd → Bool) (g : Int) (ws : List Wd) : (spD1 p g ws).length ≤ ws.length + 1 := by
  have := SP_len g (ws.map p) 0 none
  rwa [List.length_map] at this
theorem asked_ok (g : Int) (hg : 0 ≤ g) (ws : List Wd) (d : D) (hl : ws.length ≤ 1000) (hd : Due g ws d) : m__law_asked [fl ws, .int g, d] = some (.bl true) := by
  obtain ⟨tr, rfl, htr⟩ := hd.ex
  have l1 := spD1_len loB g ws
  have l2 := spD1_len hiB g ws
  have q1 := incF_ok g ws hl
  have q2 := posF_ok g ws hl
  have q3 := range_ok g ws hg hl
  have q4 := pairs_ok (spD1 loB g ws) (by omega)
  have q5 := pairs_ok (spD1 hiB g ws) (by omega)
  have q6 := pair_ok (LW g (g + 1) false ws, MW g (g + 1) ws)
  have q7 := words_ok ws (by omega)
  generalize hdd : D.tup [.lst ((spD1 loB g ws).map pD), .lst ((spD1 hiB g ws).map pD), pD (LW g (g + 1) false ws, MW g (g + 1) ws), .lst (tr.map (tW g ws))] = dd
  have x0 : ixD dd (.int 0) = some (.lst ((spD1 loB g ws).map pD)) := by rw [← hdd]; rfl
  have x1 : ixD dd (.int 1) = some (.lst ((spD1 hiB g ws).map pD)) := by rw [← hdd]; rfl
  have x2 : ixD dd (.int 2) = some (pD (LW g (g + 1) false ws, MW g (g + 1) ws)) := by rw [← hdd]; rfl
  have x3 : ixD dd (.int 3) = some (.lst (tr.map (tW g ws))) := by rw [← hdd]; rfl
  unfold m__law_asked callM b__law_asked
  generalize hmb : mSeq (mSetO 6 _) _ = mb
  generalize hmb2 : mSeq (mSet 8 _) _ = mb2
  rw [seq_nx [.fz (fl ws), .fz (.int g), .fz dd, .fz (fl ws), .un, .un, .un, .un, .un] (by simp)]
  obtain ⟨E', h1, h2⟩ := runFor_inv (mg := gM 4) (mb := mb) (fun j E => ∃ s4 s6 s7 : Sl, E = [.fz (fl ws), .fz (.int g), .fz dd, .fz (fl ws), s4, .un, s6, s7, .un]) (rangeD 0 2) 0 [.fz (fl ws), .fz (.int g), .fz dd, .fz (fl ws), .un, .un, .un, .un, .un] ⟨_, _, _, rfl⟩ fun j d E hj hI => by
    obtain ⟨s4, s6, s7, rfl⟩ := hI
    obtain ⟨rfl, hjl⟩ := range_at hj
    refine ⟨_, _, rfl, .inl ?_, ⟨.fz (.int (0 + j)), .ow ((spD1 loB g ws).map pD ++ [.tup [.int 0, .int 0]]), .ow (.tup [.int 7, .int 7] :: (spD1 hiB g ws).map pD), rfl⟩⟩
    subst hmb
    rw [seq_nx [.fz (fl ws), .fz (.int g), .fz dd, .fz (fl ws), .fz (.int (0 + j)), .un, .ow ((spD1 loB g ws).map pD), s7, .un] (by simp [q1])]
    rw [seq_nx [.fz (fl ws), .fz (.int g), .fz dd, .fz (fl ws), .fz (.int (0 + j)), .un, .ow ((spD1 loB g ws).map pD), .ow ((spD1 hiB g ws).map pD), .un] (by simp [q2])]
    rw [seq_nx [.fz (fl ws), .fz (.int g), .fz dd, .fz (fl ws), .fz (.int (0 + j)), .un, .ow ((spD1 loB g ws).map pD), .ow ((spD1 hiB g ws).map pD), .un] (by
      simp only [mIfS, mOr, mNot, mCallT, mCons, mNil, mBin, mC, mVarT, List.getElem?_cons_succ, List.getElem?_cons_zero, Option.bind_some, Option.map_some, x0, x1]
      simp [q4, q5, nolst])]
    rw [seq_nx [.fz (fl ws), .fz (.int g), .fz dd, .fz (fl ws), .fz (.int (0 + j)), .un, .ow ((spD1 loB g ws).map pD ++ [.tup [.int 0, .int 0]]), .ow ((spD1 hiB g ws).map pD), .un] (by
      simp [show (spD1 loB g ws).length < 100000 by omega])]
    rw [seq_nx [.fz (fl ws), .fz (.int g), .fz dd, .fz (fl ws), .fz (.int (0 + j)), .un, .ow ((spD1 loB g ws).map pD ++ [.tup [.int 0, .int 0]]), .ow (.tup [.int 7, .int 7] :: (spD1 hiB g ws).map pD), .un] (by
      simp [show (spD1 hiB g ws).length < 100000 by omega])]
    simp only [mIfS, mNot, mCall, mCons, mNil, mBin, mC, mVarT, List.getElem?_cons_succ, List.getElem?_cons_zero, Option.bind_some, Option.map_some, x2]
    simp [q3, q6]
    simp [pD] at q6
    simp [pD, q6]
  obtain ⟨s4, s6, s7, rfl⟩ := h2
  rw [seq_nx [.fz (fl ws), .fz (.int g), .fz dd, .fz (fl ws), s4, .un, s6, s7, .un] (by simp; exact h1)]
  obtain ⟨E', h3, h4⟩ := runFor_inv (mg := gM 5) (mb := mb2) (fun j E => ∃ s5 s8 : Sl, E = [.fz (fl ws), .fz (.int g), .fz dd, .fz (fl ws), s4, s5, s6, s7, s8]) (tr.map (tW g ws)) 0 [.fz (fl ws), .fz (.int g), .fz dd, .fz (fl ws), s4, .un, s6, s7, .un] ⟨_, _, rfl⟩ fun j d E hj hI => by
    obtain ⟨s5, s8, rfl⟩ := hI
    obtain ⟨⟨s, t⟩, rfl, hp⟩ := map_at hj
    obtain ⟨hs, ht⟩ := htr _ (List.mem_of_getElem? hp)
    have jo := joined_ok g ws s t _ _ hl (List.getElem?_eq_getElem hs) (List.getElem?_eq_getElem ht)
    refine ⟨_, _, rfl, .inl ?_, ⟨.fz (tW g ws (s, t)), .fz (wD (jW g ws s t)), rfl⟩⟩
    subst hmb2
    simp [tW, atI, ixN, jo, wD, kit_ss]
  obtain ⟨s5, s8, rfl⟩ := h4
  rw [seq_nx [.fz (fl ws), .fz (.int g), .fz dd, .fz (fl ws), s4, s5, s6, s7, s8] (by
    simp only [mFor, mBin, mC, mVarT, List.getElem?_cons_succ, List.getElem?_cons_zero, Option.bind_some, x3]
    exact h3)]
  simp [q7]
end Sx

set_option Elab.async false
set_option linter.all false
set_option maxRecDepth 100000
set_option maxHeartbeats 4000000
namespace Sx
open PySem L2
theorem asked0_ok (ws : List Wd) (d : D) (hl : ws.length ≤ 1000) (hd : Due 0 ws d) : m__law_asked_without [fl ws, d] = some (.bl true) := by
  obtain ⟨tr, rfl, htr⟩ := hd.ex
  have l1 := spD1_len loB 0 ws
  have l2 := spD1_len hiB 0 ws
  have q1 := inc_ok 0 ws hl
  have q2 := pos_ok 0 ws hl
  have q3 := range_ok 0 ws (by omega) hl
  have q4 := pairs_ok (spD1 loB 0 ws) (by omega)
  have q5 := pairs_ok (spD1 hiB 0 ws) (by omega)
  have q6 := pair_ok (LW 0 (0 + 1) false ws, MW 0 (0 + 1) ws)
  have q7 := words_ok ws (by omega)
  generalize hdd : D.tup [.lst ((spD1 loB 0 ws).map pD), .lst ((spD1 hiB 0 ws).map pD), pD (LW 0 (0 + 1) false ws, MW 0 (0 + 1) ws), .lst (tr.map (tW 0 ws))] = dd
  have x0 : ixD dd (.int 0) = some (.lst ((spD1 loB 0 ws).map pD)) := by rw [← hdd]; rfl
  have x1 : ixD dd (.int 1) = some (.lst ((spD1 hiB 0 ws).map pD)) := by rw [← hdd]; rfl
  have x2 : ixD dd (.int 2) = some (pD (LW 0 (0 + 1) false ws, MW 0 (0 + 1) ws)) := by rw [← hdd]; rfl
  have x3 : ixD dd (.int 3) = some (.lst (tr.map (tW 0 ws))) := by rw [← hdd]; rfl
  unfold m__law_asked_without callM b__law_asked_without
  generalize hmb2 : mSeq (mSet 4 _) _ = mb2
  rw [seq_nx [.fz (fl ws), .fz dd, .fz (fl ws), .un, .un] (by simp)]
  rw [seq_nx [.fz (fl ws), .fz dd, .fz (fl ws), .un, .un] (by
    simp only [mIfS, mOr, mNot, mCall, mApC, mCons, mNil, mBin, mC, mVarT, mVar, List.getElem?_cons_succ, List.getElem?_cons_zero, Option.bind_some, Option.map_some, x0, x1]
    simp [q1, q2, q4, q5])]
  rw [seq_nx [.fz (fl ws), .fz dd, .fz (fl ws), .un, .un] (by
    simp only [mIfS, mOr, mNot, mCall, mApC, mCons, mNil, mBin, mC, mVarT, mVar, List.getElem?_cons_succ, List.getElem?_cons_zero, Option.bind_some, Option.map_some, x2]
    simp [pD] at q6 q3
    simp [q3, pD, q6])]
  obtain ⟨E', h3, h4⟩ := runFor_inv (mg := gM 3) (mb := mb2) (fun j E => ∃ s3 s4 : Sl, E = [.fz (fl ws), .fz dd, .fz (fl ws), s3, s4]) (tr.map (tW 0 ws)) 0 [.fz (fl ws), .fz dd, .fz (fl ws), .un, .un] ⟨_, _, rfl⟩ fun j d E hj hI => by
    obtain ⟨s5, s8, rfl⟩ := hI
    obtain ⟨⟨s, t⟩, rfl, hp⟩ := map_at hj
    obtain ⟨hs, ht⟩ := htr _ (List.mem_of_getElem? hp)
    have jo := joined_ok 0 ws s t _ _ hl (List.getElem?_eq_getElem hs) (List.getElem?_eq_getElem ht)
    refine ⟨_, _, rfl, .inl ?_, ⟨.fz (tW 0 ws (s, t)), .fz (wD (jW 0 ws s t)), rfl⟩⟩
    subst hmb2
    simp [tW, atI, ixN, jo, wD, kit_ss]
  obtain ⟨s3, s4, rfl⟩ := h4
  rw [seq_nx [.fz (fl ws), .fz dd, .fz (fl ws), s3, s4] (by
    simp only [mFor, mBin, mC, mVarT, List.getElem?_cons_succ, List.getElem?_cons_zero, Option.bind_some, x3]
    exact h3)]
  simp [q7]
theorem law_silenced_ok (ws : List Wd) (sil : List (Int × Int)) (hl : ws.length ≤ 1000) (hs : sil.length ≤ 1000) : m__law_silenced [fl ws, .lst (sil.map pD), fl (QW sil 0 ws)] = some (.bl true) := by
  have q1 := silencedF_ok ws sil hl hs
  have q2 := words_ok (QW sil 0 ws) (by rw [QW_len]; omega)
  have q3 := pairs_ok sil (by omega)
  have q4 := words_ok ws (by omega)
  have q5 := QW_len sil ws 0
  generalize QW sil 0 ws = qs at *
  unfold m__law_silenced callM b__law_silenced
  generalize hmb : mSeq (mSetO 6 _) _ = mb
  simp
  obtain ⟨E', h1, h2⟩ := runFor_inv (mg := gM 5) (mb := mb) (fun j E => ∃ s5 s6 : Sl, E = [.fz (fl ws), .fz (.lst (sil.map pD)), .fz (fl qs), .fz (fl ws), .fz (.lst (sil.map pD)), s5, s6]) (rangeD 0 2) 0 [.fz (fl ws), .fz (.lst (sil.map pD)), .fz (fl qs), .fz (fl ws), .fz (.lst (sil.map pD)), .un, .un] ⟨_, _, rfl⟩ fun j d E hj hI => by
    obtain ⟨s5, s6, rfl⟩ := hI
    obtain ⟨rfl, hjl⟩ := range_at hj
    refine ⟨_, _, rfl, .inl ?_, ⟨.fz (.int (0 + j)), .ow (qs.map wD ++ [.str "open"]), rfl⟩⟩
    subst hmb
    simp [q1, q2, q3, q4, nolst, q5, show ws.length < 100000 by omega]
  obtain ⟨s5, s6, rfl⟩ := h2
  simp [h1]
end Sx

set_option Elab.async false
set_option linter.all false
set_option maxRecDepth 100000
set_option maxHeartbeats 4000000
namespace Sx
open PySem L2
theorem menu_ok (r : Int) (h : 0 ≤ r ∧ r < 4) : ∃ ms : List Wd, m__law_menu [.int r] = some (fl ms) ∧ 0 < ms.length ∧ ms.length ≤ 5 := by
  unfold m__law_menu callM b__law_menu
  have : r = 0 ∨ r = 1 ∨ r = 2 ∨ r = 3 := by omega
  rcases this with rfl | rfl | rfl | rfl
  · exact ⟨[.y, .n, .o], by simp [wD, wS], by simp, by simp⟩
  · exact ⟨[.y, .n, .n, .n, .o], by simp [wD, wS], by simp, by simp⟩
  · exact ⟨[.n, .o], by simp [wD, wS], by simp, by simp⟩
  · exact ⟨[.y, .n], by simp [wD, wS], by simp, by simp⟩
theorem ixW {ms : List Wd} {i : Int} (h0 : 0 ≤ i) (h1 : i < ms.length) : ∃ w, atI (ms.map wD) i = some (wD w) := by
  obtain ⟨x, h, _⟩ := atI_mapD (f := wD) (xs := ms) h0 h1
  exact ⟨x, h⟩
theorem reach_ok (ns : List Int) (b : Bool) : ∃ g : Nat, m__law_reach [.scr ns, .bl b] = some (.int g) ∧ (b = true → g ≤ 40) := by
  obtain ⟨d1, e1, l1, u1⟩ := draw_ok ns (at_ := 0) (k := 3) (size := 7) (by omega) (by omega) (by omega)
  obtain ⟨d2, e2, l2, u2⟩ := draw_ok ns (at_ := 0) (k := 7) (size := 36) (by omega) (by omega) (by omega)
  unfold m__law_reach callM b__law_reach
  by_cases c1 : d1 = 5
  · exact ⟨11, by simp [e1, c1], by omega⟩
  · by_cases c2 : d1 = 6
    · cases b with
      | true =>
        refine ⟨(5 + d2).toNat, ?_, by omega⟩
        have : ((5 + d2).toNat : Int) = 5 + d2 := by omega
        simp [e1, c2, e2, this]
      | false => exact ⟨1000000000, by simp [e1, c2], by simp⟩
    · refine ⟨d1.toNat, ?_, by omega⟩
      have : (d1.toNat : Int) = d1 := by omega
      cases b <;> simp [e1, c1, c2, this]
theorem silences_ok (ns : List Int) (size : Nat) (hs : size ≤ 1000) : ∃ sil : List (Int × Int), m__law_silences [.scr ns, .int size] = some (.lst (sil.map pD)) ∧ sil.length ≤ 5 := by
  obtain ⟨d1, e1, l1, u1⟩ := draw_ok ns (at_ := 2) (k := 0) (size := 5) (by omega) (by omega) (by omega)
  unfold m__law_silences callM b__law_silences
  generalize hmb : mSeq (mSet 4 _) _ = mb
  simp [e1, show d1 ≤ 100000 by omega, show -100000 ≤ d1 by omega]
  obtain ⟨E', h1, h2⟩ := runFor_inv (mg := gM 3) (mb := mb) (fun j E => ∃ (sil : List (Int × Int)) (s3 s4 : Sl), E = [.fz (.scr ns), .fz (.int size), .ow (sil.map pD), s3, s4] ∧ sil.length = j) (rangeD 0 d1.toNat) 0 [.fz (.scr ns), .fz (.int size), .ow [], .un, .un] ⟨[], _, _, rfl, rfl⟩ fun j d E hj hI => by
    rw [Nat.zero_add] at hI ⊢
    obtain ⟨sil, s3, s4, rfl, hl⟩ := hI
    obtain ⟨rfl, hjl⟩ := range_at hj
    obtain ⟨d2, e2, l2, u2⟩ := draw_ok ns (at_ := 2) (k := 2 * (0 + (j : Int)) + 1) (size := (size : Int) + 9) (by omega) (by omega) (by omega)
    obtain ⟨d3, e3, l3, u3⟩ := draw_ok ns (at_ := 2) (k := 2 * (0 + (j : Int)) + 2) (size := 6) (by omega) (by omega) (by omega)
    refine ⟨_, _, rfl, .inl ?_, ⟨sil ++ [(d2 - 4, d2 - 4 + d3)], .fz (.int (0 + j)), .fz (.int (d2 - 4)), rfl, by simp; omega⟩⟩
    subst hmb
    rw [Int.zero_add] at e2 e3
    simp [mulOk_l, e2, e3, pD, show sil.length < 100000 by omega]
  obtain ⟨sil, s3, s4, rfl, hl⟩ := h2
  rw [Nat.zero_add, rangeD_len] at hl
  exact ⟨sil, by simp [h1], by omega⟩
theorem firing_short (ns : List Int) : ∃ ws : List Wd, m__law_firing [.scr ns, .bl false] = some (fl ws) ∧ ws.length ≤ 12 := by
  obtain ⟨d0, e0, l0, u0⟩ := draw_ok ns (at_ := 0) (k := 1) (size := 4) (by omega) (by omega) (by omega)
  obtain ⟨ms, em, lm, um⟩ := menu_ok d0 ⟨l0, u0⟩
  obtain ⟨d1, e1, l1, u1⟩ := draw_ok ns (at_ := 0) (k := 2) (size := 13) (by omega) (by omega) (by omega)
  unfold m__law_firing callM b__law_firing
  generalize hmb : mSeq (mSet 8 _) _ = mb
  simp [e0, em, e1, show d1 ≤ 100000 by omega, show -100000 ≤ d1 by omega]
  obtain ⟨E', h1, h2⟩ := runFor_inv (mg := gM 7) (mb := mb) (fun j E => ∃ (xs : List Wd) (s7 s8 : Sl), E = [.fz (.scr ns), .fz (.bl false), .fz (fl ms), .ow (xs.map wD), .un, .un, .un, s7, s8] ∧ xs.length = j) (rangeD 0 d1.toNat) 0 [.fz (.scr ns), .fz (.bl false), .fz (fl ms), .ow [], .un, .un, .un, .un, .un] ⟨[], _, _, rfl, rfl⟩ fun j d E hj hI => by
    rw [Nat.zero_add] at hI ⊢
    obtain ⟨xs, s7, s8, rfl, hl⟩ := hI
    obtain ⟨rfl, hjl⟩ := range_at hj
    obtain ⟨d2, e2, l2, u2⟩ := draw_ok ns (at_ := 1) (k := 0 + (j : Int)) (size := (ms.length : Int)) (by omega) (by omega) (by omega)
    obtain ⟨w, hw⟩ := ixW (ms := ms) l2 u2
    rw [Int.zero_add] at e2
    have xl : xs.length < 100000 := by omega
    generalize hq : (((xs.map wS).count ("open" : Str) : Nat) : Int) = q
    by_cases c1 : w = .o
    · subst c1
      by_cases c2 : q = 7
      · refine ⟨_, _, rfl, .inl ?_, ⟨xs ++ [.n], .fz (.int (0 + j)), .fz (wD .n), rfl, by simp; omega⟩⟩
        subst hmb
        simp [e2, hw, allStrs_w, wD, wS, hq, c2, xl]
      · refine ⟨_, _, rfl, .inl ?_, ⟨xs ++ [.o], .fz (.int (0 + j)), .fz (wD .o), rfl, by simp; omega⟩⟩
        subst hmb
        simp [e2, hw, allStrs_w, wD, wS, hq, c2, xl]
    · refine ⟨_, _, rfl, .inl ?_, ⟨xs ++ [w], .fz (.int (0 + j)), .fz (wD w), rfl, by simp; omega⟩⟩
      subst hmb
      simp [e2, hw, allStrs_w, wD, c1, xl]
  obtain ⟨xs, s7, s8, rfl, hl⟩ := h2
  rw [Nat.zero_add, rangeD_len] at hl
  exact ⟨xs, by simp [h1], by omega⟩

def eFi (ns : List Int) (ms : List Wd) (s3 s4 s5 s6 s7 : Sl) : En := [.fz (.scr ns), .fz (.bl true), .fz (fl ms), s3, s4, s5, s6, s7, .un]
theorem sz_tail (ns : List Int) (ms part : List Wd) (width size : Int) (hw : 0 < width ∧ width ≤ 24) (hp : (part.length : Int) = width) (hs : 13 ≤ size ∧ size ≤ 200) {mb1 mb2 : En → Option Out}
    (h1 : mb1 = mApp 3 (mBin ixD (mVarT 5) (mBin (intOpC (fun _ j => decide (0 < j)) fun i j => .int (i % j)) (mVarT 7) (mVarT 4))))
    (h2 : mb2 = mSub 3 (mBin ixD (mList (mLst (mCons (mC (.str "yes")) (mCons (mC (.str "no")) (mCons (mC (.str "open")) mNil))))) (mCall 4 m__law_draw (mCons (mVar 0) (mCons (mC (.int 3)) (mCons (mBin addD (mBin (intOpC mulOk fun i j => .int (i * j)) (mC (.int 2)) (mVarT 7)) (mC (.int 1))) (mCons (mC (.int 3)) mNil)))))) (mCall 4 m__law_draw (mCons (mVar 0) (mCons (mC (.int 3)) (mCons (mBin (intOpC mulOk fun i j => .int (i * j)) (mC (.int 2)) (mVarT 7)) (mCons (mVar 6) mNil)))))) :
    ∃ ws : List Wd, run (mSeq (mFor (fun E => ((mVarT 6) E).bind rg1) (gM 7) mb1) (mSeq (mFor (fun E => ((mC (.int 8)) E).bind rg1) (gM 7) mb2) (mRetO 3)) (eFi ns ms (.ow []) (.fz (.int width)) (.fz (fl part)) (.fz (.int size)) .un)) = some (fl ws) ∧ (ws.length : Int) = size := by
  obtain ⟨E', k1, k2⟩ := runFor_inv (mg := gM 7) (mb := mb1) (fun j E => ∃ (xs : List Wd) (s7 : Sl), E = eFi ns ms (.ow (xs.map wD)) (.fz (.int width)) (.fz (fl part)) (.fz (.int size)) s7 ∧ xs.length = j) (rangeD 0 size.toNat) 0 (eFi ns ms (.ow []) (.fz (.int width)) (.fz (fl part)) (.fz (.int size)) .un) ⟨[], .un, rfl, rfl⟩ fun j d E hj hI => by
    rw [Nat.zero_add] at hI ⊢
    obtain ⟨xs, s7, rfl, hl⟩ := hI
    obtain ⟨rfl, hjl⟩ := range_at hj
    obtain ⟨w, hw2⟩ := ixW (ms := part) (i := (j : Int) % width) (Int.emod_nonneg _ (by omega)) (by rw [hp]; exact Int.emod_lt_of_pos _ (by omega))
    refine ⟨_, _, rfl, .inl ?_, ⟨xs ++ [w], .fz (.int (0 + j)), rfl, by simp; omega⟩⟩
    subst h1
    simp [eFi, hw.1, hw2, show xs.length < 100000 by omega]
  obtain ⟨xs, s7, rfl, hl⟩ := k2
  rw [Nat.zero_add, rangeD_len] at hl
  obtain ⟨E', k3, k4⟩ := runFor_inv (mg := gM 7) (mb := mb2) (fun j E => ∃ (xs : List Wd) (s7 : Sl), E = eFi ns ms (.ow (xs.map wD)) (.fz (.int width)) (.fz (fl part)) (.fz (.int size)) s7 ∧ xs.length = size.toNat) (rangeD 0 8) 0 (eFi ns ms (.ow (xs.map wD)) (.fz (.int width)) (.fz (fl part)) (.fz (.int size)) s7) ⟨xs, s7, rfl, hl⟩ fun j d E hj hI => by
    obtain ⟨xs, s7, rfl, hl⟩ := hI
    obtain ⟨rfl, hjl⟩ := range_at hj
    obtain ⟨d2, e2, l2, u2⟩ := draw_ok ns (at_ := 3) (k := 2 * (j : Int) + 1) (size := 3) (by omega) (by omega) (by omega)
    obtain ⟨d3, e3, l3, u3⟩ := draw_ok ns (at_ := 3) (k := 2 * (j : Int)) (size := size) (by omega) (by omega) (by omega)
    obtain ⟨w, hw2⟩ := ixW (ms := [.y, .n, .o]) (i := d2) l2 (by simpa using u2)
    have hw3 : atI [D.str (Str.ofString "yes"), .str (Str.ofString "no"), .str (Str.ofString "open")] d2 = some (.str (wS w)) := hw2
    have hix : ixN xs.length d3 = some d3.toNat := by
      unfold ixN
      rw [if_pos l3, if_pos (by omega)]
    refine ⟨_, _, rfl, .inl ?_, ⟨xs.set d3.toNat w, .fz (.int (0 + j)), rfl, by simp; omega⟩⟩
    subst h2
    simp [eFi, mulOk_l, e2, e3, hw3, hix, wD]
  obtain ⟨ys, s7', rfl, hl2⟩ := k4
  refine ⟨ys, mat_nx (eFi ns ms (.ow (xs.map wD)) (.fz (.int width)) (.fz (fl part)) (.fz (.int size)) s7) ?_ (mat_nx (eFi ns ms (.ow (ys.map wD)) (.fz (.int width)) (.fz (fl part)) (.fz (.int size)) s7') ?_ ?_), by omega⟩
  · rw [← k1]
    simp [eFi, show size ≤ 100000 by omega, show -100000 ≤ size by omega]
  · rw [← k3]
    simp
  · simp [eFi, run]
theorem firing_long (ns : List Int) : ∃ ws : List Wd, m__law_firing [.scr ns, .bl true] = some (fl ws) ∧ 13 ≤ ws.length ∧ ws.length ≤ 200 := by
  obtain ⟨d0, e0, l0, u0⟩ := draw_ok ns (at_ := 0) (k := 1) (size := 4) (by omega) (by omega) (by omega)
  obtain ⟨ms, em, lm, um⟩ := menu_ok d0 ⟨l0, u0⟩
  obtain ⟨d1, e1, l1, u1⟩ := draw_ok ns (at_ := 0) (k := 4) (size := 24) (by omega) (by omega) (by omega)
  obtain ⟨d2, e2, l2, u2⟩ := draw_ok ns (at_ := 0) (k := 5) (size := 2) (by omega) (by omega) (by omega)
  obtain ⟨d3, e3, l3, u3⟩ := draw_ok ns (at_ := 0) (k := 6) (size := 187) (by omega) (by omega) (by omega)
  unfold m__law_firing callM
  show ∃ ws, run (b__law_firing [.fz (.scr ns), .fz (.bl true), .un, .un, .un, .un, .un, .un, .un]) = _ ∧ _
  unfold b__law_firing
  generalize hmb : mApp 3 (mBin ixD (mVarT 5) _) = mb1
  generalize hmb2 : mSub 3 _ _ = mb2
  generalize hme : mBin ixD (mVarT 2) (mCall 4 m__law_draw _) = me
  obtain ⟨part, c1, c2⟩ := runComp_enc (mg := gM 7) (mt := mYes) (me := me) (E0 := eFi ns ms (.ow []) (.fz (.int (1 + d1))) .un .un .un) (fun (i : Nat) => D.int (0 + (i : Int))) wD (fun _ _ => True) (List.range (1 + d1).toNat) fun i hi => by
    have hi' := List.mem_range.mp hi
    obtain ⟨r, r1, r2, r3⟩ := draw_ok ns (at_ := 1) (k := (i : Int)) (size := (ms.length : Int)) (by omega) (by omega) (by omega)
    obtain ⟨w, hw⟩ := ixW (ms := ms) r2 r3
    refine ⟨_, w, rfl, rfl, ?_, trivial⟩
    subst hme
    simp [eFi, r1, hw]
  have hpl : part.length = (1 + d1).toNat := by rw [← Paired.len c2, List.length_range]
  rw [← rangeD_eq] at c1
  obtain ⟨size, hsz⟩ : ∃ z : Int, z = (if d2 = 0 then 13 + d3 else 200) := ⟨_, rfl⟩
  have hsz2 : 13 ≤ size ∧ size ≤ 200 := by
    rw [hsz]
    split <;> omega
  obtain ⟨ws, w1, w2⟩ := sz_tail ns ms part (1 + d1) size (by omega) (by omega) hsz2 hmb.symm hmb2.symm
  refine ⟨ws, ?_, by omega, by omega⟩
  refine mat_nx (eFi ns ms .un .un .un .un .un) (by simp [e0, em, eFi]) ?_
  refine mat_nx (eFi ns ms (.ow []) .un .un .un .un) (by simp [eFi]) ?_
  refine mat_nx (eFi ns ms (.ow []) .un .un .un .un) (by simp [eFi]) ?_
  refine mat_nx (eFi ns ms (.ow []) (.fz (.int (1 + d1))) .un .un .un) (by simp [eFi, e1]) ?_
  refine mat_nx (eFi ns ms (.ow []) (.fz (.int (1 + d1))) (.fz (fl part)) .un .un) (by
    simp [eFi, show 1 + d1 ≤ 100000 by omega, show -100000 ≤ 1 + d1 by omega, rangeD_len, show (1 + d1).toNat ≤ 100000 by omega]
    simp [eFi] at c1
    simp [c1]) ?_
  refine mat_nx (eFi ns ms (.ow []) (.fz (.int (1 + d1))) (.fz (fl part)) (.fz (.int 200)) .un) (by simp [eFi]) ?_
  refine mat_nx (eFi ns ms (.ow []) (.fz (.int (1 + d1))) (.fz (fl part)) (.fz (.int size)) .un) (by
    by_cases c : d2 = 0
    · rw [if_pos c] at hsz
      simp [eFi, e2, c, e3, hsz]
    · rw [if_neg c] at hsz
      simp [eFi, e2, c, hsz]) ?_
  exact w1
end Sx

set_option Elab.async false
set_option linter.all false
set_option maxRecDepth 100000
set_option maxHeartbeats 4000000
namespace Sx
open PySem L2
def eD (ns : List Int) (ws : List Wd) (g : Nat) (b : Bool) (s4 s5 s6 s7 s8 s9 s10 s11 s12 s13 : Sl) : En := [.fz (.scr ns), .fz (fl ws), .fz (.int g), .fz (.bl b), s4, s5, s6, s7, s8, s9, s10, s11, s12, s13, .un]
abbrev sLo (g : Nat) (ws : List Wd) : Sl := .fz (.lst ((spD1 loB g ws).map pD))
abbrev sHi (g : Nat) (ws : List Wd) : Sl := .fz (.lst ((spD1 hiB g ws).map pD))
theorem due_head (ns : List Int) (ws : List Wd) (g : Nat) (b : Bool) (hl : ws.length ≤ 1000) {d : D} {r : En → Option Out} {x1 x2 : En → Option D}
    (h1 : x1 = mCall 1 m__law_spans (mCons (mCall 2 m__law_marks (mCons (mList (mComp [14] (fun E => ((mVarT 1) E).bind lstOf) (gM 14) mYes (mBin eqD (mVarT 14) (mC (.str "yes"))))) (mCons (mVar 2) mNil))) mNil))
    (h2 : x2 = mCall 1 m__law_spans (mCons (mCall 2 m__law_marks (mCons (mList (mComp [14] (fun E => ((mVarT 1) E).bind lstOf) (gM 14) mYes (mBin neD (mVarT 14) (mC (.str "no"))))) (mCons (mVar 2) mNil))) mNil))
    (k : run (r (eD ns ws g b (sLo g ws) (sHi g ws) (.ow []) .un .un .un .un .un .un .un)) = some d) :
    run (mSeq (mSet 4 x1) (mSeq (mSet 5 x2) (mSeq (mSetO 6 (mLst mNil)) r)) (eD ns ws g b .un .un .un .un .un .un .un .un .un .un)) = some d := by
  have e1 : (ws.map fun w => D.bl (loB w)) = (ws.map loB).map D.bl := by rw [List.map_map]; rfl
  have e2 : (ws.map fun w => D.bl (hiB w)) = (ws.map hiB).map D.bl := by rw [List.map_map]; rfl
  have m1 := marks_ok g (ws.map loB) (by rw [List.length_map]; omega)
  have m2 := marks_ok g (ws.map hiB) (by rw [List.length_map]; omega)
  have p1 := spans_ok g (ws.map loB) (by rw [List.length_map]; omega)
  have p2 := spans_ok g (ws.map hiB) (by rw [List.length_map]; omega)
  unfold bl at m1 m2
  rw [← e1] at m1
  rw [← e2] at m2
  subst h1 h2
  refine mat_nx (eD ns ws g b (sLo g ws) .un .un .un .un .un .un .un .un .un) ?_ (mat_nx (eD ns ws g b (sLo g ws) (sHi g ws) .un .un .un .un .un .un .un .un) ?_ (mat_nx (eD ns ws g b (sLo g ws) (sHi g ws) (.ow []) .un .un .un .un .un .un .un) ?_ k))
  · simp [eD, show ws.length ≤ 100000 by omega]
    rw [runComp_map wD (fun w => D.bl (loB w)) ws fun w _ => ⟨_, rfl, rfl, by simp [wD]; rfl⟩]
    simp [m1, p1]
  · simp [eD, show ws.length ≤ 100000 by omega]
    rw [runComp_map wD (fun w => D.bl (hiB w)) ws fun w _ => ⟨_, rfl, rfl, by simp [wD, hiB]⟩]
    simp [m2, p2]
  · simp [eD]
abbrev eW (ns : List Int) (ws : List Wd) (g : Nat) (b : Bool) (tr : List (Nat × Nat)) (s7 s8 s9 s10 s11 s12 s13 : Sl) : En := eD ns ws g b (sLo g ws) (sHi g ws) (.ow (tr.map (tW g ws))) s7 s8 s9 s10 s11 s12 s13
theorem due_of (g : Nat) (ws : List Wd) (tr : List (Nat × Nat)) (h : ∀ p ∈ tr, p.1 < ws.length ∧ p.2 < ws.length) : Due g ws (.tup [.lst ((spD1 loB g ws).map pD), .lst ((spD1 hiB g ws).map pD), pD (LW g (g + 1) false ws, MW g (g + 1) ws), .lst (tr.map (tW g ws))]) := ⟨tr, rfl, h⟩
theorem due_long (ns : List Int) (ws : List Wd) (G : Nat) (hG : G ≤ 50000) (h1 : 13 ≤ ws.length) (h2 : ws.length ≤ 200) : ∃ d, m__law_due [.scr ns, fl ws, .int G, .bl true] = some d ∧ Due G ws d := by
  have hr := rangeDP_ok G hG ws (by omega)
  unfold m__law_due callM
  show ∃ d, run (b__law_due [.scr ns |> Sl.fz, .fz (fl ws), .fz (.int G), .fz (.bl true), .un, .un, .un, .un, .un, .un, .un, .un, .un, .un, .un]) = some d ∧ _
  unfold b__law_due
  generalize hmb : mSeq (mSet 9 _) _ = mb
  obtain ⟨E', k1, k2⟩ := runFor_inv (mg := gM 10) (mb := mb) (fun j E => ∃ (tr : List (Nat × Nat)) (s9 s10 s11 : Sl), E = eW ns ws G true tr .un .un s9 s10 s11 .un .un ∧ tr.length = j ∧ ∀ p ∈ tr, p.1 < ws.length ∧ p.2 < ws.length)
    (rangeD 0 10) 0 (eW ns ws G true [] .un .un .un .un .un .un .un) ⟨[], .un, .un, .un, rfl, rfl, fun p h => by cases h⟩ fun j d E hj hI => by
    rw [Nat.zero_add] at hI ⊢
    obtain ⟨tr, s9, s10, s11, rfl, hl, hp⟩ := hI
    obtain ⟨rfl, hjl⟩ := range_at hj
    obtain ⟨d2, e2, l2, u2⟩ := draw_ok ns (at_ := 4) (k := 2 * (j : Int)) (size := (ws.length : Int)) (by omega) (by omega) (by omega)
    obtain ⟨z, hz⟩ : ∃ z : Int, z = (if 12 + 20 * (j : Int) < (ws.length : Int) - d2 then 12 + 20 * (j : Int) else (ws.length : Int) - d2) := ⟨_, rfl⟩
    have hz2 : 0 < z ∧ z ≤ (ws.length : Int) - d2 := by
      rw [hz]
      split <;> omega
    obtain ⟨d3, e3, l3, u3⟩ := draw_ok ns (at_ := 4) (k := 2 * (j : Int) + 1) (size := z) (by omega) (by omega) hz2.1
    obtain ⟨s, rfl⟩ : ∃ s : Nat, d2 = s := ⟨d2.toNat, by omega⟩
    obtain ⟨t, ht⟩ : ∃ t : Nat, (s : Int) + d3 = t := ⟨((s : Int) + d3).toNat, by omega⟩
    have hs1 : s < ws.length := by omega
    have ht1 : t < ws.length := by omega
    have fo := far_ok G (by omega) ws s t _ _ (List.getElem?_eq_getElem hs1) (List.getElem?_eq_getElem ht1) (by omega) (by omega)
    have jw := joined_word G (by omega) ws s t _ _ (List.getElem?_eq_getElem hs1) (List.getElem?_eq_getElem ht1) (by omega)
    rw [← jw] at fo
    refine ⟨_, _, rfl, .inl ?_, ⟨tr ++ [(s, t)], .fz (.int s), .fz (.int (0 + j)), .fz (.int t), rfl, by simp; omega, fun p h => ?_⟩⟩
    · subst hmb
      rw [hz] at e3
      simp [eD, mulOk_l, mulOk_r, e2, e3, ht, fo, tW, show tr.length < 100000 by omega]
    · rcases List.mem_append.mp h with h | h
      · exact hp p h
      · rw [List.mem_singleton.mp h]
        exact ⟨hs1, ht1⟩
  obtain ⟨tr, s9, s10, s11, rfl, hl, hp⟩ := k2
  refine ⟨_, due_head ns ws G true (by omega) rfl rfl (d := .tup [.lst ((spD1 loB G ws).map pD), .lst ((spD1 hiB G ws).map pD), pD (LW G (G + 1) false ws, MW G (G + 1) ws), .lst (tr.map (tW G ws))]) ?_, due_of G ws tr hp⟩
  have k1' : runFor (gM 10) mb (rangeD 0 10) (eD ns ws G true (sLo G ws) (sHi G ws) (.ow []) .un .un .un .un .un .un .un) = _ := k1
  simp [eD] at k1'
  simp [eD, k1', hr, run, pD]
theorem due_short (ns : List Int) (ws : List Wd) (g : Nat) (h2 : ws.length ≤ 12) : ∃ d, m__law_due [.scr ns, fl ws, .int g, .bl false] = some d ∧ Due g ws d := by
  obtain ⟨ss, es, hss, hn⟩ := settle_ok ws h2
  have hbl : ∀ bs ∈ ss, bs.length = ws.length := fun bs h => (((hss bs).mp h).len).symm
  unfold m__law_due callM
  show ∃ d, run (b__law_due [.scr ns |> Sl.fz, .fz (fl ws), .fz (.int g), .fz (.bl false), .un, .un, .un, .un, .un, .un, .un, .un, .un, .un, .un]) = some d ∧ _
  unfold b__law_due
  generalize hmb2 : mApp 6 (mTup (mCons (mVar 9) (mCons (mVar 11) (mCons (mCall 3 m__law_near_word _) mNil)))) = mb2
  generalize hmb : mFor (fun E => ((mVarT 9) E).bind _) (gM 11) mb2 = mb
  generalize hns : ss.map (fun bs => cnt (g : Int) ((g : Int) + 1) bs) = nsL
  have hnsl : nsL ≠ [] := by
    intro h
    rw [← hns, List.map_eq_nil_iff] at h
    have := (hss _).mpr (stl_lo ws)
    rw [h] at this
    cases this
  obtain ⟨f, hf⟩ := minL_def hnsl
  obtain ⟨t, ht⟩ := maxL_def hnsl
  obtain ⟨f1, f2⟩ := minL_ok hf
  obtain ⟨t1, t2⟩ := maxL_ok ht
  have hff : f = LW g (g + 1) false ws := by
    obtain ⟨a, cs, b, c⟩ := LW_min g ws (g + 1) (by omega) (by omega)
    rw [← hns] at f1 f2
    obtain ⟨bs, p, q⟩ := List.mem_map.mp f1
    have x1 := a bs ((hss bs).mp p)
    have x2 := f2 _ (List.mem_map.mpr ⟨cs, (hss cs).mpr b, rfl⟩)
    omega
  have htt : t = MW g (g + 1) ws := by
    obtain ⟨a, cs, b, c⟩ := MW_max g ws (g + 1) (by omega)
    rw [← hns] at t1 t2
    obtain ⟨bs, p, q⟩ := List.mem_map.mp t1
    have x1 := a bs ((hss bs).mp p)
    have x2 := t2 _ (List.mem_map.mpr ⟨cs, (hss cs).mpr b, rfl⟩)
    omega
  generalize hA : Sl.fz (mD g ss) = sA
  generalize hB : Sl.fz (.lst (nsL.map .int)) = sB
  obtain ⟨E', k1, k2⟩ := runFor_inv (mg := gM 9) (mb := mb) (fun j E => ∃ (tr : List (Nat × Nat)) (s9 s11 : Sl), E = eW ns ws g false tr sA sB s9 .un s11 .un .un ∧ tr.length ≤ 12 * j ∧ ∀ p ∈ tr, p.1 < ws.length ∧ p.2 < ws.length)
    (rangeD 0 ws.length) 0 (eW ns ws g false [] sA sB .un .un .un .un .un) ⟨[], .un, .un, rfl, by simp, fun p h => by cases h⟩ fun j d E hj hI => by
    rw [Nat.zero_add] at hI ⊢
    obtain ⟨tr, s9, s11, rfl, hl, hp⟩ := hI
    obtain ⟨rfl, hjl⟩ := range_at hj
    obtain ⟨E', k3, k4⟩ := runFor_inv (mg := gM 11) (mb := mb2) (fun i E => ∃ (tr2 : List (Nat × Nat)) (s11 : Sl), E = eW ns ws g false tr2 sA sB (.fz (.int (0 + j))) .un s11 .un .un ∧ tr2.length = tr.length + i ∧ ∀ p ∈ tr2, p.1 < ws.length ∧ p.2 < ws.length)
      (rangeD j (ws.length - j)) 0 (eW ns ws g false tr sA sB (.fz (.int (0 + j))) .un s11 .un .un) ⟨tr, s11, rfl, rfl, hp⟩ fun i d E hi hI => by
      rw [Nat.zero_add] at hI ⊢
      obtain ⟨tr2, s11, rfl, hl2, hp2⟩ := hI
      obtain ⟨rfl, hil⟩ := range_at hi
      have c1 : (j : Int) + (i : Int) = ((j + i : Nat) : Int) := by omega
      have no := near_ok g ss ws.length j (j + i) hbl hjl (by omega) (by omega)
      have nw := near_word g (by omega) ws ss hss j (j + i) _ _ (List.getElem?_eq_getElem hjl) (List.getElem?_eq_getElem (show j + i < ws.length by omega)) (by omega)
      have jw := joined_word g (by omega) ws j (j + i) _ _ (List.getElem?_eq_getElem hjl) (List.getElem?_eq_getElem (show j + i < ws.length by omega)) (by omega)
      rw [nw, ← jw] at no
      rw [c1]
      refine ⟨_, _, rfl, .inl ?_, ⟨tr2 ++ [(j, j + i)], .fz (.int ((j + i : Nat) : Int)), rfl, by simp; omega, fun p h => ?_⟩⟩
      · subst hmb2 hA
        have c2 : ((j + i : Nat) : Int) = (j : Int) + (i : Int) := by omega
        rw [c2] at no
        simp [eD, no, tW, show tr2.length < 100000 by omega]
      · rcases List.mem_append.mp h with h | h
        · exact hp2 p h
        · rw [List.mem_singleton.mp h]
          exact ⟨hjl, by omega⟩
    obtain ⟨tr2, s11', rfl, hl2, hp2⟩ := k4
    rw [Nat.zero_add, rangeD_len] at hl2
    refine ⟨_, _, rfl, .inl ?_, ⟨tr2, .fz (.int (0 + j)), s11', rfl, by omega, hp2⟩⟩
    subst hmb
    have c3 : ((ws.length : Int) - (j : Int)).toNat = ws.length - j := by omega
    rw [← k3]
    simp [eD, show (ws.length : Int) ≤ 100000 by omega, show (-100000 : Int) ≤ ws.length by omega, show (j : Int) ≤ 100000 by omega, show (-100000 : Int) ≤ (j : Int) by omega]
  obtain ⟨tr, s9, s11, rfl, hl, hp⟩ := k2
  refine ⟨_, due_head ns ws g false (by omega) rfl rfl (d := .tup [.lst ((spD1 loB g ws).map pD), .lst ((spD1 hiB g ws).map pD), pD (LW g (g + 1) false ws, MW g (g + 1) ws), .lst (tr.map (tW g ws))]) ?_, due_of g ws tr hp⟩
  refine mat_nx (eD ns ws g false (sLo g ws) (sHi g ws) (.ow []) .un .un .un .un .un .un .un) (by simp [eD]) ?_
  refine mat_nx (eD ns ws g false (sLo g ws) (sHi g ws) (.ow []) sA .un .un .un .un .un .un) ?_ ?_
  · simp [eD, es, sD, show ss.length ≤ 100000 by omega]
    rw [runComp_map (fun bs : List Bool => D.lst (bs.map .bl)) (fun bs => D.lst ((mks g bs).map .int)) ss fun bs hb => ⟨_, rfl, rfl, by
      have := marks_ok g bs (by rw [hbl bs hb]; omega)
      simp [this]⟩]
    simp [← hA, mD]
  refine mat_nx (eD ns ws g false (sLo g ws) (sHi g ws) (.ow []) sA sB .un .un .un .un .un) ?_ ?_
  · simp [eD, ← hA, mD, show ss.length ≤ 100000 by omega]
    rw [runComp_map (fun bs : List Bool => D.lst ((mks g bs).map .int)) (fun bs => D.int (cnt (g : Int) ((g : Int) + 1) bs)) ss fun bs hb => ⟨_, rfl, rfl, by
      have s1 := spans_ok g bs (by rw [hbl bs hb]; omega)
      have s2 := SP_lenN g bs 0 (g + 1) (by omega)
      simp [s1, s2]⟩]
    simp [← hB, ← hns]
  refine mat_nx (eD ns ws g false (sLo g ws) (sHi g ws) (.ow (tr.map (tW g ws))) sA sB s9 .un s11 .un .un) ?_ ?_
  · rw [show eD ns ws g false (sLo g ws) (sHi g ws) (.ow (tr.map (tW g ws))) sA sB s9 .un s11 .un .un = eW ns ws g false tr sA sB s9 .un s11 .un .un from rfl, ← k1]
    simp [eD, show (ws.length : Int) ≤ 100000 by omega, show (-100000 : Int) ≤ ws.length by omega]
  · simp [eD, run, ← hB, allInts_map, hf, ht, hff, htt, pD]
end Sx

set_option Elab.async false
set_option linter.all false
set_option maxRecDepth 100000
set_option maxHeartbeats 4000000
namespace Sx
open PySem L2
theorem law_true (ns : List Int) (hn : ns.length ≤ 63) : m_law [.scr ns] = some (.bl true) := by
  obtain ⟨d0, e0, l0, u0⟩ := draw_ok ns (at_ := 0) (k := 0) (size := 8) (by omega) (by omega) (by omega)
  obtain ⟨b, hb⟩ : ∃ b : Bool, b = decide (d0 = 0) := ⟨_, rfl⟩
  obtain ⟨g, eg, hg⟩ := reach_ok ns b
  obtain ⟨ws, ef, h1, h2⟩ : ∃ ws : List Wd, m__law_firing [.scr ns, .bl b] = some (fl ws) ∧ ws.length ≤ 200 ∧ ∀ (qs : List Wd) (G : Nat), qs.length = ws.length → (b = true → G ≤ 40) → ∃ d, m__law_due [.scr ns, fl qs, .int G, .bl b] = some d ∧ Due G qs d := by
    cases b with
    | true =>
      obtain ⟨ws, a, p, q⟩ := firing_long ns
      exact ⟨ws, a, q, fun qs G hq hG => due_long ns qs G (by have := hG rfl; omega) (by omega) (by omega)⟩
    | false =>
      obtain ⟨ws, a, p⟩ := firing_short ns
      exact ⟨ws, a, by omega, fun qs G hq _ => due_short ns qs G (by omega)⟩
  obtain ⟨sil, es, hs⟩ := silences_ok ns ws.length (by omega)
  have eq := quiet_ok ws sil (by omega) (by omega)
  have ql := QW_len sil ws 0
  have es2 := law_silenced_ok ws sil (by omega) (by omega)
  generalize QW sil 0 ws = qs at *
  obtain ⟨dA, a1, a2⟩ := h2 ws g rfl hg
  obtain ⟨dB, b1, b2⟩ := h2 ws 0 rfl (fun _ => by omega)
  obtain ⟨dC, c1, c2⟩ := h2 qs g ql hg
  have ra := asked_ok g (by omega) ws dA (by omega) a2
  have rb := asked0_ok ws dB (by omega) b2
  have rc := asked_ok g (by omega) qs dC (by omega) c2
  have b1' : m__law_due [.scr ns, fl ws, .int 0, .bl b] = some dB := b1
  unfold m_law callM
  show run (b_law [.fz (.scr ns), .un, .un, .un, .un, .un]) = _
  unfold b_law
  refine mat_nx [.fz (.scr ns), .fz (.bl b), .un, .un, .un, .un] (by simp [e0, hb]) ?_
  refine mat_nx [.fz (.scr ns), .fz (.bl b), .fz (fl ws), .un, .un, .un] (by simp [ef]) ?_
  refine mat_nx [.fz (.scr ns), .fz (.bl b), .fz (fl ws), .fz (.int g), .un, .un] (by simp [eg]) ?_
  refine mat_nx [.fz (.scr ns), .fz (.bl b), .fz (fl ws), .fz (.int g), .fz (.lst (sil.map pD)), .un] (by simp [es]) ?_
  refine mat_nx [.fz (.scr ns), .fz (.bl b), .fz (fl ws), .fz (.int g), .fz (.lst (sil.map pD)), .fz (fl qs)] (by simp [eq]) ?_
  refine mat_nx [.fz (.scr ns), .fz (.bl b), .fz (fl ws), .fz (.int g), .fz (.lst (sil.map pD)), .fz (fl qs)] (by simp [es2]) ?_
  refine mat_nx [.fz (.scr ns), .fz (.bl b), .fz (fl ws), .fz (.int g), .fz (.lst (sil.map pD)), .fz (fl qs)] (by simp [a1, ra]) ?_
  refine mat_nx [.fz (.scr ns), .fz (.bl b), .fz (fl ws), .fz (.int g), .fz (.lst (sil.map pD)), .fz (fl qs)] (by simp [b1', rb]) ?_
  simp [run, c1, rc]
end Sx

namespace Sx
open PySem PySem.Spec PyProof.Rows L2
section
def d__joined_ticks : He.DefD := ⟨("_joined_ticks", none), "_joined_ticks", "_joined_ticks", defArgs s__joined_ticks, defBody s__joined_ticks, defScope s__joined_ticks, [], []⟩
def d_incidents : He.DefD := ⟨("incidents", none), "incidents", "incidents", defArgs s_incidents, defBody s_incidents, defScope s_incidents, [], [("gap", .int 0)]⟩
def d_possible_incidents : He.DefD := ⟨("possible_incidents", none), "possible_incidents", "possible_incidents", defArgs s_possible_incidents, defBody s_possible_incidents, defScope s_possible_incidents, [], [("gap", .int 0)]⟩
def d_incident_range : He.DefD := ⟨("incident_range", none), "incident_range", "incident_range", defArgs s_incident_range, defBody s_incident_range, defScope s_incident_range, [], [("gap", .int 0)]⟩
def d__is_within : He.DefD := ⟨("_is_within", none), "_is_within", "_is_within", defArgs s__is_within, defBody s__is_within, defScope s__is_within, [], []⟩
def d_joined : He.DefD := ⟨("joined", none), "joined", "joined", defArgs s_joined, defBody s_joined, defScope s_joined, [], [("gap", .int 0)]⟩
def d_silenced : He.DefD := ⟨("silenced", none), "silenced", "silenced", defArgs s_silenced, defBody s_silenced, defScope s_silenced, [], []⟩
def d__law_cell : He.DefD := ⟨("_law_cell", none), "_law_cell", "_law_cell", defArgs s__law_cell, defBody s__law_cell, defScope s__law_cell, [], []⟩
def d__law_draw : He.DefD := ⟨("_law_draw", none), "_law_draw", "_law_draw", defArgs s__law_draw, defBody s__law_draw, defScope s__law_draw, [], []⟩
def d__law_menu : He.DefD := ⟨("_law_menu", none), "_law_menu", "_law_menu", defArgs s__law_menu, defBody s__law_menu, defScope s__law_menu, [], []⟩
def d__law_firing : He.DefD := ⟨("_law_firing", none), "_law_firing", "_law_firing", defArgs s__law_firing, defBody s__law_firing, defScope s__law_firing, [], []⟩
def d__law_reach : He.DefD := ⟨("_law_reach", none), "_law_reach", "_law_reach", defArgs s__law_reach, defBody s__law_reach, defScope s__law_reach, [], []⟩
def d__law_silences : He.DefD := ⟨("_law_silences", none), "_law_silences", "_law_silences", defArgs s__law_silences, defBody s__law_silences, defScope s__law_silences, [], []⟩
def d__law_quiet : He.DefD := ⟨("_law_quiet", none), "_law_quiet", "_law_quiet", defArgs s__law_quiet, defBody s__law_quiet, defScope s__law_quiet, [], []⟩
def d__law_settlements : He.DefD := ⟨("_law_settlements", none), "_law_settlements", "_law_settlements", defArgs s__law_settlements, defBody s__law_settlements, defScope s__law_settlements, [], []⟩
def d__law_marks : He.DefD := ⟨("_law_marks", none), "_law_marks", "_law_marks", defArgs s__law_marks, defBody s__law_marks, defScope s__law_marks, [], []⟩
def d__law_spans : He.DefD := ⟨("_law_spans", none), "_law_spans", "_law_spans", defArgs s__law_spans, defBody s__law_spans, defScope s__law_spans, [], []⟩
def d__law_range : He.DefD := ⟨("_law_range", none), "_law_range", "_law_range", defArgs s__law_range, defBody s__law_range, defScope s__law_range, [], []⟩
def d__law_longest : He.DefD := ⟨("_law_longest", none), "_law_longest", "_law_longest", defArgs s__law_longest, defBody s__law_longest, defScope s__law_longest, [], []⟩
def d__law_far_word : He.DefD := ⟨("_law_far_word", none), "_law_far_word", "_law_far_word", defArgs s__law_far_word, defBody s__law_far_word, defScope s__law_far_word, [], []⟩
def d__law_near_word : He.DefD := ⟨("_law_near_word", none), "_law_near_word", "_law_near_word", defArgs s__law_near_word, defBody s__law_near_word, defScope s__law_near_word, [], []⟩
def d__law_due : He.DefD := ⟨("_law_due", none), "_law_due", "_law_due", defArgs s__law_due, defBody s__law_due, defScope s__law_due, [], []⟩
def d__law_is_number : He.DefD := ⟨("_law_is_number", none), "_law_is_number", "_law_is_number", defArgs s__law_is_number, defBody s__law_is_number, defScope s__law_is_number, [], []⟩
def d__law_is_pair : He.DefD := ⟨("_law_is_pair", none), "_law_is_pair", "_law_is_pair", defArgs s__law_is_pair, defBody s__law_is_pair, defScope s__law_is_pair, [], []⟩
def d__law_are_pairs : He.DefD := ⟨("_law_are_pairs", none), "_law_are_pairs", "_law_are_pairs", defArgs s__law_are_pairs, defBody s__law_are_pairs, defScope s__law_are_pairs, [], []⟩
def d__law_are_words : He.DefD := ⟨("_law_are_words", none), "_law_are_words", "_law_are_words", defArgs s__law_are_words, defBody s__law_are_words, defScope s__law_are_words, [], []⟩
def d__law_asked : He.DefD := ⟨("_law_asked", none), "_law_asked", "_law_asked", defArgs s__law_asked, defBody s__law_asked, defScope s__law_asked, [], []⟩
def d__law_asked_without : He.DefD := ⟨("_law_asked_without", none), "_law_asked_without", "_law_asked_without", defArgs s__law_asked_without, defBody s__law_asked_without, defScope s__law_asked_without, [], []⟩
def d__law_silenced : He.DefD := ⟨("_law_silenced", none), "_law_silenced", "_law_silenced", defArgs s__law_silenced, defBody s__law_silenced, defScope s__law_silenced, [], []⟩
def d_law : He.DefD := ⟨("law", none), "law", "law", defArgs s_law, defBody s_law, defScope s_law, [], []⟩
def fnL : List He.DefD := [d__joined_ticks, d_incidents, d_possible_incidents, d_incident_range, d__is_within, d_joined, d_silenced, d__law_cell, d__law_draw, d__law_menu, d__law_firing, d__law_reach, d__law_silences, d__law_quiet, d__law_settlements, d__law_marks, d__law_spans, d__law_range, d__law_longest, d__law_far_word, d__law_near_word, d__law_due, d__law_is_number, d__law_is_pair, d__law_are_pairs, d__law_are_words, d__law_asked, d__law_asked_without, d__law_silenced, d_law]
def faL : List He.Fa := [.glo "_joined_ticks", .glo "incidents", .glo "possible_incidents", .glo "incident_range", .glo "_is_within", .glo "joined", .glo "silenced", .glo "_law_cell", .glo "_law_draw", .glo "_law_menu", .glo "_law_firing", .glo "_law_reach", .glo "_law_silences", .glo "_law_quiet", .glo "_law_settlements", .glo "_law_marks", .glo "_law_spans", .glo "_law_range", .glo "_law_longest", .glo "_law_far_word", .glo "_law_near_word", .glo "_law_due", .glo "_law_is_number", .glo "_law_is_pair", .glo "_law_are_pairs", .glo "_law_are_words", .glo "_law_asked", .glo "_law_asked_without", .glo "_law_silenced", .glo "law", .free "enumerate", .free "any", .free "len", .free "int", .free "range", .free "list", .free "min", .free "max", .free "isinstance", .free "bool", .free "tuple", .free "str"]
abbrev RR : PySem.W.OpenRow := PySem.W.OpenLaw.row PySem.Challenge.rw_surelyseen_k16_incidents_settled
abbrev hkL : PySem.W.Hook := He.hookD 4 faL fnL
def obL (s : PySem.W.SharedT) : He.AlD := He.obsDG 4 faL fnL (HandSHeadRun.getT s)
theorem obL_eq (s : PySem.W.SharedT) : obL s = hkL.obs s.abs := He.obsDG_eq (HandSHeadRun.getT_eq s)
def looseL : List PySem.Str := ["incidents", "possible_incidents", "incident_range", "joined", "silenced", "_joined_ticks", "_is_within", "_law_cell", "_law_draw", "_law_menu", "_law_firing", "_law_reach", "_law_silences", "_law_quiet", "_law_settlements", "_law_marks", "_law_spans", "_law_range", "_law_longest", "_law_far_word", "_law_near_word", "_law_due", "_law_is_number", "_law_is_pair", "_law_are_pairs", "_law_are_words", "_law_asked", "_law_asked_without", "_law_silenced"]
set_option maxHeartbeats 0 in
theorem runL (w : World) : HandSHeadRun.RunEq RR (PySem.W.view RR.prog [31]) hkL obL 4000 looseL w := by
  intro os
  kernel_rfl
variable {P : Program} {w : World} {K : PySem.W.Frag} {mg : Str → Option Value} {base h : Heap}
theorem stands (X : K.In h) (G : h.Ns mainGlobals mg) (c : He.SaysD faL fnL K) (i : Nat) (x : Str) (st : Stmt) (h1 : fnL[i]? = some ⟨(x, none), x, x, defArgs st, defBody st, defScope st, [], []⟩) (h2 : faL[i]? = some (.glo x)) : Stands K mg x st := by
  obtain ⟨fd, F⟩ := c.def_ i h1
  exact ⟨_, fd, He.glo_ok X G (c.fact i h2), F⟩
theorem standsK (X : K.In h) (G : h.Ns mainGlobals mg) (c : He.SaysD faL fnL K) (i : Nat) (x : Str) (st : Stmt) (kws : List (Str × He.Dv)) (h1 : fnL[i]? = some ⟨(x, none), x, x, defArgs st, defBody st, defScope st, [], kws⟩) (h2 : faL[i]? = some (.glo x)) : StandsK K mg x st (kws.map fun q => (q.1, q.2.v K)) := by
  obtain ⟨fd, F⟩ := c.def_ i h1
  exact ⟨_, fd, He.glo_ok X G (c.fact i h2), F⟩
theorem factsL (X : K.In h) (G : h.Ns mainGlobals mg) (c : He.SaysD faL fnL K) {f : Addr} {fd : FuncData} (F : FunD K "law" "law" (defArgs s_law) (defBody s_law) (defScope s_law) [] [] f fd) : FnOk P w K mg base CX0 5 f fd ["script"] (spD K 1 m_law) := by
  have h_enumerate : mg "enumerate" = none := He.free_ok X G (c.fact 30 (f := .free "enumerate") rfl)
  have h_any : mg "any" = none := He.free_ok X G (c.fact 31 (f := .free "any") rfl)
  have h_len : mg "len" = none := He.free_ok X G (c.fact 32 (f := .free "len") rfl)
  have h_int : mg "int" = none := He.free_ok X G (c.fact 33 (f := .free "int") rfl)
  have h_range : mg "range" = none := He.free_ok X G (c.fact 34 (f := .free "range") rfl)
  have h_list : mg "list" = none := He.free_ok X G (c.fact 35 (f := .free "list") rfl)
  have h_min : mg "min" = none := He.free_ok X G (c.fact 36 (f := .free "min") rfl)
  have h_max : mg "max" = none := He.free_ok X G (c.fact 37 (f := .free "max") rfl)
  have h_isinstance : mg "isinstance" = none := He.free_ok X G (c.fact 38 (f := .free "isinstance") rfl)
  have h_bool : mg "bool" = none := He.free_ok X G (c.fact 39 (f := .free "bool") rfl)
  have h_tuple : mg "tuple" = none := He.free_ok X G (c.fact 40 (f := .free "tuple") rfl)
  have h_str : mg "str" = none := He.free_ok X G (c.fact 41 (f := .free "str") rfl)
  have c__joined_ticks := cal__joined_ticks (P := P) (w := w) (base := base) (stands X G c 0 "_joined_ticks" s__joined_ticks rfl rfl) h_enumerate
  have f__joined_ticks := calF__joined_ticks (P := P) (w := w) (base := base) (stands X G c 0 "_joined_ticks" s__joined_ticks rfl rfl) h_enumerate
  have c_incidents := cal_incidents (P := P) (w := w) (base := base) (standsK X G c 1 "incidents" s_incidents [("gap", .int 0)] rfl rfl) f__joined_ticks
  have f_incidents := calF_incidents (P := P) (w := w) (base := base) (standsK X G c 1 "incidents" s_incidents [("gap", .int 0)] rfl rfl) f__joined_ticks
  have c_possible_incidents := cal_possible_incidents (P := P) (w := w) (base := base) (standsK X G c 2 "possible_incidents" s_possible_incidents [("gap", .int 0)] rfl rfl) f__joined_ticks
  have f_possible_incidents := calF_possible_incidents (P := P) (w := w) (base := base) (standsK X G c 2 "possible_incidents" s_possible_incidents [("gap", .int 0)] rfl rfl) f__joined_ticks
  have c_incident_range := cal_incident_range (P := P) (w := w) (base := base) (standsK X G c 3 "incident_range" s_incident_range [("gap", .int 0)] rfl rfl) c_possible_incidents h_enumerate
  have c__is_within := cal__is_within (P := P) (w := w) (base := base) (stands X G c 4 "_is_within" s__is_within rfl rfl) h_any
  have c_joined := cal_joined (P := P) (w := w) (base := base) (standsK X G c 5 "joined" s_joined [("gap", .int 0)] rfl rfl) c__is_within c_incidents c_possible_incidents
  have c_silenced := cal_silenced (P := P) (w := w) (base := base) (stands X G c 6 "silenced" s_silenced rfl rfl) h_enumerate h_any
  have f_silenced := calF_silenced (P := P) (w := w) (base := base) (stands X G c 6 "silenced" s_silenced rfl rfl) h_enumerate h_any
  have c__law_cell := cal__law_cell (P := P) (w := w) (base := base) (stands X G c 7 "_law_cell" s__law_cell rfl rfl) h_len h_int
  have c__law_draw := cal__law_draw (P := P) (w := w) (base := base) (stands X G c 8 "_law_draw" s__law_draw rfl rfl) c__law_cell h_range h_int
  have c__law_menu := cal__law_menu (P := P) (w := w) (base := base) (stands X G c 9 "_law_menu" s__law_menu rfl rfl)
  have c__law_firing := cal__law_firing (P := P) (w := w) (base := base) (stands X G c 10 "_law_firing" s__law_firing rfl rfl) c__law_menu c__law_draw h_range h_len
  have c__law_reach := cal__law_reach (P := P) (w := w) (base := base) (stands X G c 11 "_law_reach" s__law_reach rfl rfl) c__law_draw
  have c__law_silences := cal__law_silences (P := P) (w := w) (base := base) (stands X G c 12 "_law_silences" s__law_silences rfl rfl) c__law_draw h_range
  have c__law_quiet := cal__law_quiet (P := P) (w := w) (base := base) (stands X G c 13 "_law_quiet" s__law_quiet rfl rfl) h_len h_range
  have c__law_settlements := cal__law_settlements (P := P) (w := w) (base := base) (stands X G c 14 "_law_settlements" s__law_settlements rfl rfl) h_list
  have c__law_marks := cal__law_marks (P := P) (w := w) (base := base) (stands X G c 15 "_law_marks" s__law_marks rfl rfl) h_len h_range
  have c__law_spans := cal__law_spans (P := P) (w := w) (base := base) (stands X G c 16 "_law_spans" s__law_spans rfl rfl) h_len h_range
  have c__law_range := cal__law_range (P := P) (w := w) (base := base) (stands X G c 17 "_law_range" s__law_range rfl rfl) h_range h_int h_min h_max
  have c__law_longest := cal__law_longest (P := P) (w := w) (base := base) (stands X G c 18 "_law_longest" s__law_longest rfl rfl) h_range h_max
  have c__law_far_word := cal__law_far_word (P := P) (w := w) (base := base) (stands X G c 19 "_law_far_word" s__law_far_word rfl rfl) c__law_longest
  have c__law_near_word := cal__law_near_word (P := P) (w := w) (base := base) (stands X G c 20 "_law_near_word" s__law_near_word rfl rfl) h_len
  have c__law_due := cal__law_due (P := P) (w := w) (base := base) (stands X G c 21 "_law_due" s__law_due rfl rfl) c__law_spans c__law_marks c__law_draw c__law_far_word c__law_range c__law_settlements c__law_near_word h_range h_len h_min h_max
  have c__law_is_number := cal__law_is_number (P := P) (w := w) (base := base) (stands X G c 22 "_law_is_number" s__law_is_number rfl rfl) h_isinstance h_int h_bool
  have c__law_is_pair := cal__law_is_pair (P := P) (w := w) (base := base) (stands X G c 23 "_law_is_pair" s__law_is_pair rfl rfl) c__law_is_number h_isinstance h_tuple h_len
  have c__law_are_pairs := cal__law_are_pairs (P := P) (w := w) (base := base) (stands X G c 24 "_law_are_pairs" s__law_are_pairs rfl rfl) c__law_is_pair h_isinstance h_list h_len h_range
  have c__law_are_words := cal__law_are_words (P := P) (w := w) (base := base) (stands X G c 25 "_law_are_words" s__law_are_words rfl rfl) h_isinstance h_list h_len h_range h_str
  have c__law_asked := cal__law_asked (P := P) (w := w) (base := base) (stands X G c 26 "_law_asked" s__law_asked rfl rfl) c__law_are_pairs c__law_is_pair c_incident_range c_joined c__law_are_words f_incidents f_possible_incidents h_list h_range h_isinstance h_str
  have c__law_asked_without := cal__law_asked_without (P := P) (w := w) (base := base) (stands X G c 27 "_law_asked_without" s__law_asked_without rfl rfl) c__law_are_pairs c_incidents c_possible_incidents c__law_is_pair c_incident_range c_joined c__law_are_words h_list h_isinstance h_str
  have c__law_silenced := cal__law_silenced (P := P) (w := w) (base := base) (stands X G c 28 "_law_silenced" s__law_silenced rfl rfl) c__law_are_words c__law_are_pairs f_silenced h_list h_range
  exact fn_law F c__law_draw c__law_firing c__law_reach c__law_silences c__law_quiet c__law_silenced c__law_asked c__law_due c__law_asked_without h_len
theorem lastL (hm : ∀ ns : List Int, ns.length ≤ 63 → m_law [.scr ns] = some (.bl true)) (X : K.In h) (G : h.Ns mainGlobals mg) (c : He.SaysD faL fnL K) {fa : Addr} (hmg : mg "law" = some (.ref fa)) :
    ∃ (K : PySem.W.Frag) (fd : FuncData) (sp : Sp), K.In h ∧ (∀ (s : Shared) (u : Value), BindsTo s fd ⟨[u], []⟩ [("script", u)]) ∧
        (∀ (H : Hp) (a : Addr) (ns : List Int), ns.length ≤ 63 → Only H → SqL K H a (ns.map V.int) → sp [.ref a] H (fun v _ => v = .bl true) fun _ _ _ => False) ∧
        ∀ base : Heap, K.In base → base.Ns mainGlobals mg → FnOk P w K mg base CX0 5 fa fd ["script"] sp := by
  obtain ⟨f, fd, g, F⟩ := (stands X G c 29 "law" s_law rfl rfl).ex
  rw [g] at hmg
  cases hmg
  have F0 := F
  obtain ⟨oc, od, dV, kV, doc, pm, an, cdv, ct, osl, rfl, lk, hcd, hd, _⟩ := F0.ex
  have hdv : dV = .none := by
    rcases hd with ⟨_, h⟩ | ⟨z, _⟩
    · exact h
    · exact absurd rfl z
  subst hdv
  refine ⟨K, _, spD K 1 m_law, X, fun s u => .of_eq (bd_law kV doc pm an cdv ct [u] rfl), fun H a ns hl _ hS => ⟨noS, [.scr ns], .bl true, fun a z => z.elim, .cons ((Rp.scr hS).mono rem_no _) .nil, rfl, hm ns hl, fun v H' _ r => ?_⟩, fun base _ _ => factsL X G c F⟩
  cases r
  rfl
end
end Sx
open PySem PySem.W PySem.Calls PyProof.Rows
set_option maxHeartbeats 0 in
theorem PySem.Challenge.cw_surelyseen_k16_incidents_settled_holds : PySem.Challenge.rw_surelyseen_k16_incidents_settled.Holds := by
  w_on; o_law
  refine HandSHeadRun.head_any (r := OpenLaw.row PySem.Challenge.rw_surelyseen_k16_incidents_settled) (q := view (OpenLaw.row PySem.Challenge.rw_surelyseen_k16_incidents_settled).prog [31]) (H := Sx.hkL) (ob := Sx.obL) (M := 4000) (loose := Sx.looseL) (d := HandSHeadRun.topDef (OpenLaw.row PySem.Challenge.rw_surelyseen_k16_incidents_settled).prog 31) (kwd := []) Sx.obL_eq
    (by kernel_rfl) (fun s => by kernel_rfl) Sx.runL (by kernel_rfl) (by kernel_rfl) (by kernel_rfl) (by rfl) (by first | assumption | decide +kernel) (by decide +kernel) ⟨rfl, rfl, rfl, rfl, rfl, by decide +kernel⟩ ?hw ?hc
  case hw => w_witness2
  case hc =>
    refine L2.walk_ofE (l := PySem.Challenge.rw_surelyseen_k16_incidents_settled) (n := 63) (k := 5) (x := "script") (CX := L2.CX0) rfl (by decide) (by kernel_rfl) ⟨rfl, by decide, by decide⟩ ?F (fun _ _ _ _ z => z)
    intro w mg fa h Y G hmg0
    obtain ⟨K, KX, c⟩ := Y
    have hmg : mg ("law" : PySem.Str) = some (.ref fa) := by
      have e : (HandSHeadRun.topDef (OpenLaw.row PySem.Challenge.rw_surelyseen_k16_incidents_settled).prog 31).name = ("law" : PySem.Str) := by kernel_rfl
      rw [← e]
      exact hmg0
    exact Sx.lastL Sx.law_true KX G c hmg
