import PyProof.Rows.All
import Wide.All
import OpenK.AllK
import Wide.FinOn
import HandS.ForMost
import HandS.Evl
import HandS.Flow
import HandS.Style
import HandS.SortInts
import HandS.TupAny
import HandS.IsInst
import HandS.Defaults
import HandS.Walk
import HandS.Zip
import HandS.Sort
import HandS.More
import HandS.Head0
import HandS.Head1
import HandS.Head2
import HandS.HeadEnd
import HandS.HeadHook1
import HandS.HeadHook2
import PySem.Challenge.RW_surelyseen_k04_ways_judged
set_option Elab.async false
set_option linter.all false
set_option maxRecDepth 100000
namespace Sx
open PySem PySem.Spec PyProof.Rows L2
open Evl (Ex)

/-- data without addresses -/
inductive D where
  | non | bl (b : Bool) | int (i : Int) | str (x : Str) | lst (xs : List D) | tup (xs : List D) | scr (ns : List Int)

mutual
inductive Rp (K : PySem.W.Frag) (H : Hp) : V → D → Prop
  | non : Rp K H .non .non
  | bl (b : Bool) : Rp K H (.bl b) (.bl b)
  | int (i : Int) : Rp K H (.int i) (.int i)
  | str (x : Str) : Rp K H (.str x) (.str x)
  | lst {a : Addr} {xs : List V} {ds : List D} : H a = some (.lst xs) → RpL K H xs ds → Rp K H (.ref a) (.lst ds)
  | tup {a : Addr} {xs : List V} {ds : List D} : SqT K H a xs → RpL K H xs ds → Rp K H (.ref a) (.tup ds)
  | scr {a : Addr} {ns : List Int} : SqL K H a (ns.map V.int) → Rp K H (.ref a) (.scr ns)
inductive RpL (K : PySem.W.Frag) (H : Hp) : List V → List D → Prop
  | nil : RpL K H [] []
  | cons {v : V} {vs : List V} {d : D} {ds : List D} : Rp K H v d → RpL K H vs ds → RpL K H (v :: vs) (d :: ds)
end

section
variable {K : PySem.W.Frag} {H H' : Hp}
mutual
theorem Rp.mono (e : Ex H H') : ∀ (d : D) {v : V}, Rp K H v d → Rp K H' v d
  | .non, _, h => by cases h; exact .non
  | .bl b, _, h => by cases h; exact .bl b
  | .int i, _, h => by cases h; exact .int i
  | .str x, _, h => by cases h; exact .str x
  | .lst ds, _, h => by
    cases h with
    | lst h1 h2 => exact .lst (e _ _ h1) (RpL.mono e ds h2)
  | .tup ds, _, h => by
    cases h with
    | tup h1 h2 => exact .tup (Evl.ex_t e h1) (RpL.mono e ds h2)
  | .scr ns, _, h => by
    cases h with
    | scr h1 => exact .scr (Evl.ex_l e h1)
theorem RpL.mono (e : Ex H H') : ∀ (ds : List D) {vs : List V}, RpL K H vs ds → RpL K H' vs ds
  | [], _, h => by cases h; exact .nil
  | d :: ds, _, h => by
    cases h with
    | cons h1 h2 => exact .cons (Rp.mono e d h1) (RpL.mono e ds h2)
end
theorem RpL.length : ∀ {vs : List V} {ds : List D}, RpL K H vs ds → vs.length = ds.length
  | _, [], h => by cases h; rfl
  | _, d :: ds, h => by
    cases h with
    | cons h1 h2 => exact congrArg Nat.succ h2.length
theorem RpL.get : ∀ {vs : List V} {ds : List D} {i : Nat} {d : D}, RpL K H vs ds → ds[i]? = some d → ∃ v, vs[i]? = some v ∧ Rp K H v d
  | _, [], i, d, h, e => by simp at e
  | _, d :: ds, 0, d', h, e => by
    cases h with
    | cons h1 h2 =>
      simp at e
      subst e
      exact ⟨_, rfl, h1⟩
  | _, d :: ds, i + 1, d', h, e => by
    cases h with
    | cons h1 h2 =>
      obtain ⟨v, e1, e2⟩ := h2.get (i := i) (d := d') (by simpa using e)
      exact ⟨v, by simpa using e1, e2⟩
theorem RpL.getV {vs : List V} {ds : List D} {i : Nat} {v : V} (h : RpL K H vs ds) (e : vs[i]? = some v) : ∃ d, ds[i]? = some d ∧ Rp K H v d := by
  have hi : i < vs.length := (List.getElem?_eq_some_iff.mp e).1
  rw [h.length] at hi
  obtain ⟨u, e1, e2⟩ := h.get (List.getElem?_eq_getElem hi)
  rw [e] at e1
  cases e1
  exact ⟨_, List.getElem?_eq_getElem hi, e2⟩
theorem RpL.app : ∀ {vs us : List V} {ds es : List D}, RpL K H vs ds → RpL K H us es → RpL K H (vs ++ us) (ds ++ es)
  | _, _, [], _, h, g => by cases h; exact g
  | _, _, d :: ds, _, h, g => by
    cases h with
    | cons h1 h2 => exact .cons h1 (h2.app g)
theorem RpL.one {v : V} {d : D} (h : Rp K H v d) : RpL K H [v] [d] := .cons h .nil
theorem RpL.take : ∀ {vs : List V} {ds : List D} (n : Nat), RpL K H vs ds → RpL K H (vs.take n) (ds.take n)
  | _, _, 0, _ => .nil
  | _, [], _ + 1, h => by cases h; exact .nil
  | _, d :: ds, n + 1, h => by
    cases h with
    | cons h1 h2 => exact .cons h1 (h2.take n)
theorem RpL.drop : ∀ {vs : List V} {ds : List D} (n : Nat), RpL K H vs ds → RpL K H (vs.drop n) (ds.drop n)
  | _, _, 0, h => h
  | _, [], _ + 1, h => by cases h; exact .nil
  | _, d :: ds, n + 1, h => by
    cases h with
    | cons h1 h2 => exact h2.drop n
theorem RpL.set {v : V} {d : D} (g : Rp K H v d) : ∀ {vs : List V} {ds : List D} (n : Nat), RpL K H vs ds → RpL K H (vs.set n v) (ds.set n d)
  | _, [], _, h => by cases h; exact .nil
  | _, e :: ds, 0, h => by
    cases h with
    | cons h1 h2 => exact .cons g h2
  | _, e :: ds, n + 1, h => by
    cases h with
    | cons h1 h2 => exact .cons h1 (h2.set g n)
theorem RpL.rev : ∀ {vs : List V} {ds : List D}, RpL K H vs ds → RpL K H vs.reverse ds.reverse
  | _, [], h => by cases h; exact .nil
  | _, d :: ds, h => by
    cases h with
    | cons h1 h2 =>
      rw [List.reverse_cons, List.reverse_cons]
      exact h2.rev.app (.one h1)
theorem RpL.rep (n : Nat) {vs : List V} {ds : List D} (h : RpL K H vs ds) : RpL K H (List.replicate n vs).flatten (List.replicate n ds).flatten := by
  induction n with
  | zero => exact .nil
  | succ n ih =>
    rw [List.replicate_succ, List.replicate_succ, List.flatten_cons, List.flatten_cons]
    exact h.app ih
theorem RpL.ints : ∀ (ns : List Int), RpL K H (ns.map V.int) (ns.map D.int)
  | [] => .nil
  | n :: ns => .cons (.int n) (RpL.ints ns)
theorem RpL.ints_of : ∀ {ns : List Int} {vs : List V}, RpL K H vs (ns.map D.int) → vs = ns.map V.int
  | [], _, h => by cases h; rfl
  | n :: ns, _, h => by
    cases h with
    | cons h1 h2 =>
      cases h1
      rw [RpL.ints_of h2]
      rfl
end

/-! ### hidden and owned addresses -/
abbrev AS := Addr → Prop
open Classical in
noncomputable def rem (W : AS) (H : Hp) : Hp := fun a => if W a then none else H a
abbrev orS (W U : AS) : AS := fun a => W a ∨ U a
abbrev noS : AS := fun _ => False
theorem rem_some {W : AS} {H : Hp} {a : Addr} {o : HO} : rem W H a = some o ↔ ¬ W a ∧ H a = some o := by
  unfold rem
  by_cases h : W a
  · rw [if_pos h]
    exact ⟨fun e => (nomatch e), fun e => absurd h e.1⟩
  · rw [if_neg h]
    exact ⟨fun e => ⟨h, e⟩, fun e => e.2⟩
theorem rem_ex {W : AS} {H : Hp} : Ex (rem W H) H := fun a o h => (rem_some.mp h).2
theorem rem_mono {W : AS} {H H' : Hp} (e : Ex H H') : Ex (rem W H) (rem W H') := fun a o h => rem_some.mpr ⟨(rem_some.mp h).1, e a o (rem_some.mp h).2⟩
theorem rem_sub {W U : AS} {H : Hp} (s : ∀ a, U a → W a) : Ex (rem W H) (rem U H) := fun a o h => rem_some.mpr ⟨fun z => (rem_some.mp h).1 (s a z), (rem_some.mp h).2⟩
theorem rem_no {H : Hp} : Ex H (rem noS H) := fun a o h => rem_some.mpr ⟨fun z => z, h⟩
/-- what stood stays visible when a new object is set aside -/
theorem rem_new {W : AS} {H H' : Hp} {p : Addr} (hp : H p = none) (e : Ex H H') : Ex (rem W H) (rem (orS W (· = p)) H') := fun a o h => by
  obtain ⟨h1, h2⟩ := rem_some.mp h
  refine rem_some.mpr ⟨fun z => ?_, e a o h2⟩
  rcases z with z | z
  · exact h1 z
  · rw [z, hp] at h2
    cases h2
/-- a hidden object may change -/
theorem rem_upd {W : AS} {H : Hp} {p : Addr} {o : HO} (hp : W p) : Ex (rem W H) (rem W (upd H p o)) := fun a u h => by
  obtain ⟨h1, h2⟩ := rem_some.mp h
  refine rem_some.mpr ⟨h1, ?_⟩
  rw [upd_ne (fun z => by subst z; exact h1 hp)]
  exact h2

/-! ### environments -/
inductive Sl where
  | un | fz (d : D) | ow (ds : List D)
abbrev En := List Sl

structure RE (K : PySem.W.Frag) (hid O : AS) (B H : Hp) (σ : L2.St) (E : En) : Prop where
  base : ∀ a o, B a = some o → H a = some o ∧ ¬ O a
  own : ∀ a, O a → ¬ hid a ∧ ∃ xs, H a = some (.lst xs)
  hidd : ∀ a, hid a → ∃ xs, B a = some (.lst xs)
  len : σ.length = E.length
  fz : ∀ (i : Nat) (d : D), E[i]? = some (.fz d) → ∃ v, σ[i]? = some (some v) ∧ Rp K (rem (orS hid O) H) v d
  ow : ∀ (i : Nat) (ds : List D), E[i]? = some (.ow ds) → ∃ (p : Addr) (xs : List V), σ[i]? = some (some (.ref p)) ∧ O p ∧ H p = some (.lst xs) ∧ RpL K (rem (orS hid O) H) xs ds
  dis : ∀ (i j : Nat) (p : Addr) (ds es : List D), i ≠ j → E[i]? = some (.ow ds) → E[j]? = some (.ow es) → σ[i]? = some (some (.ref p)) → σ[j]? = some (some (.ref p)) → False

section
variable {K : PySem.W.Frag} {hid O : AS} {B H H' : Hp} {σ : L2.St} {E : En}
theorem RE.ex (r : RE K hid O B H σ E) : Ex B H := fun a o h => (r.base a o h).1
theorem RE.fresh (r : RE K hid O B H σ E) {p : Addr} (h : H p = none) : ¬ orS hid O p := fun z => by
  rcases z with z | z
  · obtain ⟨o, e⟩ := r.hidd p z
    rw [(r.base p _ e).1] at h
    cases h
  · obtain ⟨_, xs, e⟩ := r.own p z
    rw [e] at h
    cases h
theorem RE.grow (r : RE K hid O B H σ E) (e : Ex H H') : RE K hid O B H' σ E where
  base := fun a o h => ⟨e a o (r.base a o h).1, (r.base a o h).2⟩
  own := fun a h => ⟨(r.own a h).1, let ⟨xs, q⟩ := (r.own a h).2; ⟨xs, e a _ q⟩⟩
  hidd := r.hidd
  len := r.len
  fz := fun i d h => let ⟨v, h1, h2⟩ := r.fz i d h; ⟨v, h1, h2.mono (rem_mono e) d⟩
  ow := fun i ds h => let ⟨p, xs, h1, h2, h3, h4⟩ := r.ow i ds h; ⟨p, xs, h1, h2, e p _ h3, h4.mono (rem_mono e) ds⟩
  dis := r.dis
/-- a slot is stored -/
theorem RE.put (r : RE K hid O B H σ E) {v : V} {d : D} (j : Nat) (h : Rp K (rem (orS hid O) H) v d) : RE K hid O B H (σ.set j (some v)) (E.set j (.fz d)) where
  base := r.base
  own := r.own
  hidd := r.hidd
  len := by rw [List.length_set, List.length_set]; exact r.len
  fz := fun i d' q => by
    by_cases hi : j = i
    · subst hi
      have hl : j < E.length := by
        have := (List.getElem?_eq_some_iff.mp q).1
        rwa [List.length_set] at this
      rw [List.getElem?_set_self hl] at q
      cases q
      exact ⟨v, List.getElem?_set_self (r.len ▸ hl), h⟩
    · rw [List.getElem?_set_ne hi] at q
      rw [List.getElem?_set_ne hi]
      exact r.fz i d' q
  ow := fun i ds q => by
    by_cases hi : j = i
    · subst hi
      have hl : j < E.length := by
        have := (List.getElem?_eq_some_iff.mp q).1
        rwa [List.length_set] at this
      rw [List.getElem?_set_self hl] at q
      cases q
    · rw [List.getElem?_set_ne hi] at q
      rw [List.getElem?_set_ne hi]
      exact r.ow i ds q
  dis := fun i k p ds es hik q1 q2 s1 s2 => by
    have n1 : j ≠ i := fun z => by
      subst z
      have hl : j < E.length := by
        have := (List.getElem?_eq_some_iff.mp q1).1
        rwa [List.length_set] at this
      rw [List.getElem?_set_self hl] at q1
      cases q1
    have n2 : j ≠ k := fun z => by
      subst z
      have hl : j < E.length := by
        have := (List.getElem?_eq_some_iff.mp q2).1
        rwa [List.length_set] at this
      rw [List.getElem?_set_self hl] at q2
      cases q2
    rw [List.getElem?_set_ne n1] at q1 s1
    rw [List.getElem?_set_ne n2] at q2 s2
    exact r.dis i k p ds es hik q1 q2 s1 s2
/-- a slot is forgotten -/
theorem RE.drop (r : RE K hid O B H σ E) (j : Nat) : RE K hid O B H (σ.set j none) (E.set j .un) where
  base := r.base
  own := r.own
  hidd := r.hidd
  len := by rw [List.length_set, List.length_set]; exact r.len
  fz := fun i d' q => by
    have hi : j ≠ i := fun z => by
      subst z
      have hl : j < E.length := by
        have := (List.getElem?_eq_some_iff.mp q).1
        rwa [List.length_set] at this
      rw [List.getElem?_set_self hl] at q
      cases q
    rw [List.getElem?_set_ne hi] at q
    rw [List.getElem?_set_ne hi]
    exact r.fz i d' q
  ow := fun i ds q => by
    have hi : j ≠ i := fun z => by
      subst z
      have hl : j < E.length := by
        have := (List.getElem?_eq_some_iff.mp q).1
        rwa [List.length_set] at this
      rw [List.getElem?_set_self hl] at q
      cases q
    rw [List.getElem?_set_ne hi] at q
    rw [List.getElem?_set_ne hi]
    exact r.ow i ds q
  dis := fun i k p ds es hik q1 q2 s1 s2 => by
    have n1 : j ≠ i := fun z => by
      subst z
      have hl : j < E.length := by
        have := (List.getElem?_eq_some_iff.mp q1).1
        rwa [List.length_set] at this
      rw [List.getElem?_set_self hl] at q1
      cases q1
    have n2 : j ≠ k := fun z => by
      subst z
      have hl : j < E.length := by
        have := (List.getElem?_eq_some_iff.mp q2).1
        rwa [List.length_set] at this
      rw [List.getElem?_set_self hl] at q2
      cases q2
    rw [List.getElem?_set_ne n1] at q1 s1
    rw [List.getElem?_set_ne n2] at q2 s2
    exact r.dis i k p ds es hik q1 q2 s1 s2
/-- a new list, owned by a slot -/
theorem RE.putO (r : RE K hid O B H σ E) {p : Addr} {xs : List V} {ds : List D} (j : Nat) (hp : H p = none) (e : Ex H H') (hx : H' p = some (.lst xs)) (h : RpL K (rem (orS (orS hid O) (· = p)) H') xs ds) :
    RE K hid (orS O (· = p)) B H' (σ.set j (some (.ref p))) (E.set j (.ow ds)) := by
  have sub : ∀ a, orS hid (orS O (· = p)) a → orS (orS hid O) (· = p) a := fun a z => by
    rcases z with z | z | z
    · exact .inl (.inl z)
    · exact .inl (.inr z)
    · exact .inr z
  have vis : Ex (rem (orS hid O) H) (rem (orS hid (orS O (· = p))) H') := fun a o q => rem_sub sub _ _ (rem_new (W := orS hid O) hp e a o q)
  have old : ∀ (i : Nat) (q : Addr), σ[i]? = some (some (V.ref q)) → O q → q ≠ p := fun i q _ z w => by
    subst w
    exact r.fresh hp (.inr z)
  refine ⟨fun a o q => ⟨e a o (r.base a o q).1, fun z => ?_⟩, fun a z => ?_, r.hidd, ?_, fun i d q => ?_, fun i es q => ?_, fun i k q es fs hik q1 q2 s1 s2 => ?_⟩
  · rcases z with z | z
    · exact (r.base a o q).2 z
    · subst z
      rw [(r.base _ o q).1] at hp
      cases hp
  · rcases z with z | z
    · exact ⟨(r.own a z).1, let ⟨ys, q⟩ := (r.own a z).2; ⟨ys, e a _ q⟩⟩
    · subst z
      exact ⟨fun w => r.fresh hp (.inl w), xs, hx⟩
  · rw [List.length_set, List.length_set]
    exact r.len
  · have hi : j ≠ i := fun z => by
      subst z
      have hl : j < E.length := by
        have := (List.getElem?_eq_some_iff.mp q).1
        rwa [List.length_set] at this
      rw [List.getElem?_set_self hl] at q
      cases q
    rw [List.getElem?_set_ne hi] at q
    rw [List.getElem?_set_ne hi]
    obtain ⟨v, h1, h2⟩ := r.fz i d q
    exact ⟨v, h1, h2.mono vis d⟩
  · by_cases hi : j = i
    · subst hi
      have hl : j < E.length := by
        have := (List.getElem?_eq_some_iff.mp q).1
        rwa [List.length_set] at this
      rw [List.getElem?_set_self hl] at q
      cases q
      exact ⟨p, xs, List.getElem?_set_self (r.len ▸ hl), .inr rfl, hx, h.mono (rem_sub sub) ds⟩
    · rw [List.getElem?_set_ne hi] at q
      rw [List.getElem?_set_ne hi]
      obtain ⟨q', ys, h1, h2, h3, h4⟩ := r.ow i es q
      exact ⟨q', ys, h1, .inl h2, e _ _ h3, h4.mono vis es⟩
  · by_cases h1 : j = i
    · subst h1
      have hl : j < E.length := by
        have := (List.getElem?_eq_some_iff.mp q1).1
        rwa [List.length_set] at this
      rw [List.getElem?_set_self (r.len ▸ hl)] at s1
      cases s1
      rw [List.getElem?_set_ne hik] at q2 s2
      obtain ⟨q', ys, g1, g2, _⟩ := r.ow k fs q2
      rw [s2] at g1
      cases g1
      exact old k _ s2 g2 rfl
    · rw [List.getElem?_set_ne h1] at q1 s1
      by_cases h2 : j = k
      · subst h2
        have hl : j < E.length := by
          have := (List.getElem?_eq_some_iff.mp q2).1
          rwa [List.length_set] at this
        rw [List.getElem?_set_self (r.len ▸ hl)] at s2
        cases s2
        obtain ⟨q', ys, g1, g2, _⟩ := r.ow i es q1
        rw [s1] at g1
        cases g1
        exact old i _ s1 g2 rfl
      · rw [List.getElem?_set_ne h2] at q2 s2
        exact r.dis i k q es fs hik q1 q2 s1 s2
/-- an owned list changes -/
theorem RE.chg (r : RE K hid O B H σ E) {p : Addr} {xs : List V} {ds ds' : List D} {j : Nat} (hj : E[j]? = some (.ow ds)) (hs : σ[j]? = some (some (.ref p))) (h : RpL K (rem (orS hid O) H) xs ds') :
    RE K hid O B (upd H p (.lst xs)) σ (E.set j (.ow ds')) := by
  obtain ⟨p', xs0, g1, hO, hH, g4⟩ := r.ow j ds hj
  rw [hs] at g1
  cases g1
  have vis : Ex (rem (orS hid O) H) (rem (orS hid O) (upd H p (.lst xs))) := rem_upd (.inr hO)
  have hl : j < E.length := (List.getElem?_eq_some_iff.mp hj).1
  have eo : ∀ a o, a ≠ p → H a = some o → upd H p (.lst xs) a = some o := fun a o n q => by rw [upd_ne n]; exact q
  refine ⟨fun a o q => ⟨eo a o (fun z => (r.base a o q).2 (z ▸ hO)) (r.base a o q).1, (r.base a o q).2⟩, fun a z => ⟨(r.own a z).1, ?_⟩, r.hidd, ?_, fun i d q => ?_, fun i es q => ?_, fun i k q es fs hik q1 q2 s1 s2 => ?_⟩
  · by_cases e : a = p
    · subst e
      exact ⟨xs, upd_same⟩
    · obtain ⟨ys, q⟩ := (r.own a z).2
      exact ⟨ys, eo a _ e q⟩
  · rw [List.length_set]
    exact r.len
  · have hi : j ≠ i := fun z => by
      subst z
      rw [List.getElem?_set_self hl] at q
      cases q
    rw [List.getElem?_set_ne hi] at q
    obtain ⟨v, h1, h2⟩ := r.fz i d q
    exact ⟨v, h1, h2.mono vis d⟩
  · by_cases hi : j = i
    · subst hi
      rw [List.getElem?_set_self hl] at q
      cases q
      exact ⟨p, xs, hs, hO, upd_same, h.mono vis ds'⟩
    · rw [List.getElem?_set_ne hi] at q
      obtain ⟨q', ys, h1, h2, h3, h4⟩ := r.ow i es q
      have hne : q' ≠ p := fun z => by
        subst z
        exact r.dis j i _ ds es hi hj q hs h1
      exact ⟨q', ys, h1, h2, eo _ _ hne h3, h4.mono vis es⟩
  · have old : ∀ (i : Nat) (es : List D), (E.set j (.ow ds'))[i]? = some (Sl.ow es) → ∃ gs, E[i]? = some (Sl.ow gs) := fun i es q => by
      by_cases hi : j = i
      · subst hi
        exact ⟨ds, hj⟩
      · rw [List.getElem?_set_ne hi] at q
        exact ⟨es, q⟩
    obtain ⟨g1, e1⟩ := old i es q1
    obtain ⟨g2, e2⟩ := old k fs q2
    exact r.dis i k q g1 g2 hik e1 e2 s1 s2
/-- an owned list becomes like any other value -/
theorem RE.frz (r : RE K hid O B H σ E) {ds : List D} {j : Nat} (hj : E[j]? = some (.ow ds)) : ∃ O', RE K hid O' B H σ (E.set j (.fz (.lst ds))) ∧ ∀ a, O' a → O a := by
  obtain ⟨p, xs, hs, hO, hH, h4⟩ := r.ow j ds hj
  have hl : j < E.length := (List.getElem?_eq_some_iff.mp hj).1
  refine ⟨fun a => O a ∧ a ≠ p, ⟨fun a o q => ⟨(r.base a o q).1, fun z => (r.base a o q).2 z.1⟩, fun a z => r.own a z.1, r.hidd, ?_, fun i d q => ?_, fun i es q => ?_, fun i k q es fs hik q1 q2 s1 s2 => ?_⟩, fun a z => z.1⟩
  · rw [List.length_set]
    exact r.len
  · have vis : Ex (rem (orS hid O) H) (rem (orS hid fun a => O a ∧ a ≠ p) H) := rem_sub fun a z => z.elim .inl fun z => .inr z.1
    by_cases hi : j = i
    · subst hi
      rw [List.getElem?_set_self hl] at q
      cases q
      refine ⟨.ref p, hs, .lst (rem_some.mpr ⟨fun z => ?_, hH⟩) (h4.mono vis ds)⟩
      rcases z with z | z
      · exact (r.own p hO).1 z
      · exact z.2 rfl
    · rw [List.getElem?_set_ne hi] at q
      obtain ⟨v, h1, h2⟩ := r.fz i d q
      exact ⟨v, h1, h2.mono vis d⟩
  · have vis : Ex (rem (orS hid O) H) (rem (orS hid fun a => O a ∧ a ≠ p) H) := rem_sub fun a z => z.elim .inl fun z => .inr z.1
    have hi : j ≠ i := fun z => by
      subst z
      rw [List.getElem?_set_self hl] at q
      cases q
    rw [List.getElem?_set_ne hi] at q
    obtain ⟨q', ys, h1, h2, h3, h4'⟩ := r.ow i es q
    exact ⟨q', ys, h1, ⟨h2, fun z => by subst z; exact r.dis j i _ ds es hi hj q hs h1⟩, h3, h4'.mono vis es⟩
  · have n : ∀ (i : Nat) (es : List D), (E.set j (.fz (.lst ds)))[i]? = some (Sl.ow es) → E[i]? = some (Sl.ow es) := fun i es q => by
      by_cases hi : j = i
      · subst hi
        rw [List.getElem?_set_self hl] at q
        cases q
      · rwa [List.getElem?_set_ne hi] at q
    exact r.dis i k q es fs hik (n i es q1) (n k fs q2) s1 s2
/-- the entry of a def -/
theorem RE.start {vs : List V} {ds : List D} {N : List Str} (hd : ∀ a, hid a → ∃ xs, H a = some (.lst xs)) (h : RpL K (rem hid H) vs ds) : RE K hid noS H H (start N vs) (ds.map Sl.fz ++ List.replicate (N.length - ds.length) Sl.un) where
  base := fun a o q => ⟨q, fun z => z⟩
  own := fun a z => z.elim
  hidd := hd
  len := by
    unfold L2.start
    rw [List.length_append, List.length_append, List.length_map, List.length_map, List.length_replicate, List.length_replicate, h.length]
  fz := fun i d q => by
    have hi : i < ds.length := by
      by_cases hi : i < ds.length
      · exact hi
      · rw [List.getElem?_append_right (by rw [List.length_map]; omega)] at q
        rw [List.getElem?_replicate] at q
        split at q <;> cases q
    rw [List.getElem?_append_left (by rw [List.length_map]; exact hi), List.getElem?_map, List.getElem?_eq_getElem hi] at q
    cases q
    obtain ⟨v, e1, e2⟩ := h.get (List.getElem?_eq_getElem hi)
    refine ⟨v, ?_, e2.mono (rem_sub fun a z => z.elim id (fun z => z.elim)) _⟩
    unfold L2.start
    rw [List.getElem?_append_left (by rw [List.length_map, h.length]; exact hi), List.getElem?_map, e1]
    rfl
  ow := fun i es q => by
    exfalso
    by_cases hi : i < ds.length
    · rw [List.getElem?_append_left (by rw [List.length_map]; exact hi), List.getElem?_map, List.getElem?_eq_getElem hi] at q
      cases q
    · rw [List.getElem?_append_right (by rw [List.length_map]; omega)] at q
      rw [List.getElem?_replicate] at q
      split at q <;> cases q
  dis := fun i k p es fs _ q _ _ _ => by
    by_cases hi : i < ds.length
    · rw [List.getElem?_append_left (by rw [List.length_map]; exact hi), List.getElem?_map, List.getElem?_eq_getElem hi] at q
      cases q
    · rw [List.getElem?_append_right (by rw [List.length_map]; omega)] at q
      rw [List.getElem?_replicate] at q
      split at q <;> cases q
end
end Sx

set_option Elab.async false
set_option linter.all false
set_option maxRecDepth 100000
set_option maxHeartbeats 1000000
namespace Sx
open PySem PySem.Spec PyProof.Rows L2
open Evl (Ex)

/-- a value; an owned list may be named, too -/
def Tv (K : PySem.W.Frag) (hid O : AS) (H : Hp) (v : V) (d : D) : Prop :=
  Rp K (rem (orS hid O) H) v d ∨ ∃ p xs ds, d = .lst ds ∧ v = .ref p ∧ O p ∧ H p = some (.lst xs) ∧ RpL K (rem (orS hid O) H) xs ds
abbrev Al (hid O : AS) (H : Hp) : Prop := ∀ p, H p = none → ¬ orS hid O p
section
variable {K : PySem.W.Frag} {hid O : AS} {B H H' : Hp} {σ : L2.St} {E : En} {v : V} {d : D}
theorem Tv.mono (e : Ex H H') (h : Tv K hid O H v d) : Tv K hid O H' v d := by
  rcases h with h | ⟨p, xs, ds, h1, h2, h3, h4, h5⟩
  · exact .inl (h.mono (rem_mono e) d)
  · exact .inr ⟨p, xs, ds, h1, h2, h3, e p _ h4, h5.mono (rem_mono e) ds⟩
theorem Tv.lst {ds : List D} (h : Tv K hid O H v (.lst ds)) : ∃ p xs, v = .ref p ∧ H p = some (.lst xs) ∧ RpL K (rem (orS hid O) H) xs ds := by
  rcases h with h | ⟨p, xs, es, h1, h2, h3, h4, h5⟩
  · cases h with
    | lst h1 h2 => exact ⟨_, _, rfl, (rem_some.mp h1).2, h2⟩
  · cases h1
    exact ⟨p, xs, h2, h4, h5⟩
theorem Tv.full (h : Tv K hid O H v d) : Rp K H v d := by
  rcases h with h | ⟨p, xs, ds, rfl, rfl, h3, h4, h5⟩
  · exact h.mono rem_ex d
  · exact .lst h4 (h5.mono rem_ex ds)
theorem Tv.int {i : Int} (h : Tv K hid O H v (.int i)) : v = .int i := by
  rcases h with h | ⟨p, xs, ds, h1, _⟩
  · cases h; rfl
  · cases h1
theorem Tv.bl {i : Bool} (h : Tv K hid O H v (.bl i)) : v = .bl i := by
  rcases h with h | ⟨p, xs, ds, h1, _⟩
  · cases h; rfl
  · cases h1
theorem Tv.str {i : Str} (h : Tv K hid O H v (.str i)) : v = .str i := by
  rcases h with h | ⟨p, xs, ds, h1, _⟩
  · cases h; rfl
  · cases h1
theorem Tv.non (h : Tv K hid O H v .non) : v = .non := by
  rcases h with h | ⟨p, xs, ds, h1, _⟩
  · cases h; rfl
  · cases h1
theorem Tv.tup {ds : List D} (h : Tv K hid O H v (.tup ds)) : ∃ p xs, v = .ref p ∧ SqT K (rem (orS hid O) H) p xs ∧ RpL K (rem (orS hid O) H) xs ds := by
  rcases h with h | ⟨p, xs, es, h1, _⟩
  · cases h with
    | tup h1 h2 => exact ⟨_, _, rfl, h1, h2⟩
  · cases h1
theorem Tv.scr {ns : List Int} (h : Tv K hid O H v (.scr ns)) : ∃ p, v = .ref p ∧ SqL K H p (ns.map V.int) := by
  rcases h with h | ⟨p, xs, es, h1, _⟩
  · cases h with
    | scr h1 => exact ⟨_, rfl, Evl.ex_l rem_ex h1⟩
  · cases h1
theorem al_of (r : RE K hid O B H σ E) : Al hid O H := fun p h => r.fresh h
/-- a list as a sequence to read -/
theorem Tv.seq {ds : List D} (h : Tv K hid O H v (.lst ds)) : ∃ p xs, v = .ref p ∧ SqL K H p xs ∧ RpL K (rem (orS hid O) H) xs ds := by
  obtain ⟨p, xs, e, h1, h2⟩ := h.lst
  exact ⟨p, xs, e, .inl (.inl h1), h2⟩
theorem vis_new {p : Addr} {o : HO} (hn : ¬ orS hid O p) (h : H p = some o) : rem (orS hid O) H p = some o := rem_some.mpr ⟨hn, h⟩
end

/-! ### what simulates what -/
section
variable (K : PySem.W.Frag)
def SE (te : TE) (m : En → Option D) : Prop := ∀ (hid O : AS) (B H : Hp) (σ : L2.St) (E : En) (d : D), RE K hid O B H σ E → m E = some d → ∀ Q : VK, (∀ v H', Ex H H' → Rp K (rem (orS hid O) H') v d → Q v H') → te σ H Q
def ST (te : TE) (m : En → Option D) : Prop := ∀ (hid O : AS) (B H : Hp) (σ : L2.St) (E : En) (d : D), RE K hid O B H σ E → m E = some d → ∀ Q : VK, (∀ v H', Ex H H' → Tv K hid O H' v d → Q v H') → te σ H Q
def SF (te : TE) (m : En → Option (List D)) : Prop := ∀ (hid O : AS) (B H : Hp) (σ : L2.St) (E : En) (ds : List D), RE K hid O B H σ E → m E = some ds → ∀ Q : VK,
  (∀ p xs H', H p = none → Ex H H' → H' p = some (.lst xs) → RpL K (rem (orS (orS hid O) (· = p)) H') xs ds → Q (.ref p) H') → te σ H Q
def SB (tt : TT) (m : En → Option Bool) : Prop := ∀ (hid O : AS) (B H : Hp) (σ : L2.St) (E : En) (b : Bool), RE K hid O B H σ E → m E = some b → ∀ Q : Bool → Hp → Prop, (∀ H', Ex H H' → Q b H') → tt σ H Q
def SA (ta : TA) (m : En → Option (List D)) : Prop := ∀ (hid O : AS) (B H : Hp) (σ : L2.St) (E : En) (ds : List D), RE K hid O B H σ E → m E = some ds → ∀ Q : List V → Hp → Prop, (∀ vs H', Ex H H' → RpL K (rem (orS hid O) H') vs ds → Q vs H') → ta σ H Q
/-- arguments that may name owned lists: told by what the whole heap shows -/
def SAT (ta : TA) (m : En → Option (List D)) : Prop := ∀ (hid O : AS) (B H : Hp) (σ : L2.St) (E : En) (ds : List D), RE K hid O B H σ E → m E = some ds → ∀ Q : List V → Hp → Prop, (∀ vs H', Ex H H' → RpL K H' vs ds → Q vs H') → ta σ H Q
def SO (to : TO) (m : En → Option (Option Int)) : Prop := ∀ (hid O : AS) (B H : Hp) (σ : L2.St) (E : En) (o : Option Int), RE K hid O B H σ E → m E = some o → ∀ Q : Option Int → Hp → Prop, (∀ H', Ex H H' → Q o H') → to σ H Q
/-- an operation by values -/
def OD (r : R2) (f : D → D → Option D) : Prop := ∀ (hid O : AS) (H : Hp) (x y : V) (a b d : D), Al hid O H → Tv K hid O H x a → Tv K hid O H y b → f a b = some d → ∀ Q : VK, (∀ v H', Ex H H' → Rp K (rem (orS hid O) H') v d → Q v H') → r x y H Q
end

/-! ### with the term of the layer; the canonical readings -/
section
variable (K : PySem.W.Frag)
def tE (m : En → Option D) : TE := fun σ H Q => ∃ (hid O : AS) (B : Hp) (E : En) (d : D), RE K hid O B H σ E ∧ m E = some d ∧ ∀ v H', Ex H H' → Rp K (rem (orS hid O) H') v d → Q v H'
def tT (m : En → Option D) : TE := fun σ H Q => ∃ (hid O : AS) (B : Hp) (E : En) (d : D), RE K hid O B H σ E ∧ m E = some d ∧ ∀ v H', Ex H H' → Tv K hid O H' v d → Q v H'
def tF (m : En → Option (List D)) : TE := fun σ H Q => ∃ (hid O : AS) (B : Hp) (E : En) (ds : List D), RE K hid O B H σ E ∧ m E = some ds ∧ ∀ p xs H', H p = none → Ex H H' → H' p = some (.lst xs) → RpL K (rem (orS (orS hid O) (· = p)) H') xs ds → Q (.ref p) H'
def tBq (m : En → Option Bool) : TT := fun σ H Q => ∃ (hid O : AS) (B : Hp) (E : En) (b : Bool), RE K hid O B H σ E ∧ m E = some b ∧ ∀ H', Ex H H' → Q b H'
def tAq (m : En → Option (List D)) : TA := fun σ H Q => ∃ (hid O : AS) (B : Hp) (E : En) (ds : List D), RE K hid O B H σ E ∧ m E = some ds ∧ ∀ vs H', Ex H H' → RpL K (rem (orS hid O) H') vs ds → Q vs H'
def tATq (m : En → Option (List D)) : TA := fun σ H Q => ∃ (hid O : AS) (B : Hp) (E : En) (ds : List D), RE K hid O B H σ E ∧ m E = some ds ∧ ∀ vs H', Ex H H' → RpL K H' vs ds → Q vs H'
def tOq (m : En → Option (Option Int)) : TO := fun σ H Q => ∃ (hid O : AS) (B : Hp) (E : En) (o : Option Int), RE K hid O B H σ E ∧ m E = some o ∧ ∀ H', Ex H H' → Q o H'
end
def DE (X : Cx) (e : Expr) (m : En → Option D) : Prop := ∃ te, PE X e te ∧ SE X.K te m
def DT (X : Cx) (e : Expr) (m : En → Option D) : Prop := ∃ te, PE X e te ∧ ST X.K te m
def DF (X : Cx) (e : Expr) (m : En → Option (List D)) : Prop := ∃ te, PE X e te ∧ SF X.K te m
def DB (X : Cx) (e : Expr) (m : En → Option Bool) : Prop := ∃ tt, PT X e tt ∧ SB X.K tt m
def DW (X : Cx) (e : Expr) (m : En → Option Bool) : Prop := ∃ tt, PW X e tt ∧ SB X.K tt m
def DA (X : Cx) (es : List Expr) (m : En → Option (List D)) : Prop := ∃ ta, PA X es ta ∧ SA X.K ta m
def DAT (X : Cx) (es : List Expr) (m : En → Option (List D)) : Prop := ∃ ta, PA X es ta ∧ SAT X.K ta m
def DO (X : Cx) (e : Option Expr) (m : En → Option (Option Int)) : Prop := ∃ to, PO X e to ∧ SO X.K to m
section
variable {X : Cx} {e : Expr} {es : List Expr} {oe : Option Expr} {m : En → Option D} {mf : En → Option (List D)} {mb : En → Option Bool} {mo : En → Option (Option Int)}
theorem DE.pe (h : DE X e m) : PE X e (tE X.K m) := by
  obtain ⟨te, p, s⟩ := h
  exact ⟨fun pins s0 σ H Q I h => p.run pins s0 σ H Q I (by obtain ⟨hid, O, B, E, d, r, hm, q⟩ := h; exact s hid O B H σ E d r hm Q q)⟩
theorem DE.si (h : DE X e m) : SE X.K (tE X.K m) m := fun hid O B H σ E d r hm Q q => ⟨hid, O, B, E, d, r, hm, q⟩
theorem DT.pe (h : DT X e m) : PE X e (tT X.K m) := by
  obtain ⟨te, p, s⟩ := h
  exact ⟨fun pins s0 σ H Q I h => p.run pins s0 σ H Q I (by obtain ⟨hid, O, B, E, d, r, hm, q⟩ := h; exact s hid O B H σ E d r hm Q q)⟩
theorem DT.si (h : DT X e m) : ST X.K (tT X.K m) m := fun hid O B H σ E d r hm Q q => ⟨hid, O, B, E, d, r, hm, q⟩
theorem DF.pe (h : DF X e mf) : PE X e (tF X.K mf) := by
  obtain ⟨te, p, s⟩ := h
  exact ⟨fun pins s0 σ H Q I h => p.run pins s0 σ H Q I (by obtain ⟨hid, O, B, E, d, r, hm, q⟩ := h; exact s hid O B H σ E d r hm Q q)⟩
theorem DF.si (h : DF X e mf) : SF X.K (tF X.K mf) mf := fun hid O B H σ E d r hm Q q => ⟨hid, O, B, E, d, r, hm, q⟩
theorem DB.pt (h : DB X e mb) : PT X e (tBq X.K mb) := by
  obtain ⟨te, p, s⟩ := h
  exact ⟨fun pins s0 σ H Q I h => p.run pins s0 σ H Q I (by obtain ⟨hid, O, B, E, d, r, hm, q⟩ := h; exact s hid O B H σ E d r hm Q q)⟩
theorem DB.si (h : DB X e mb) : SB X.K (tBq X.K mb) mb := fun hid O B H σ E d r hm Q q => ⟨hid, O, B, E, d, r, hm, q⟩
theorem DW.pw (h : DW X e mb) : PW X e (tBq X.K mb) := by
  obtain ⟨te, p, s⟩ := h
  exact ⟨fun w pins s0 σ H Q I h => p.run w pins s0 σ H Q I (by obtain ⟨hid, O, B, E, d, r, hm, q⟩ := h; exact s hid O B H σ E d r hm Q q)⟩
theorem DW.si (h : DW X e mb) : SB X.K (tBq X.K mb) mb := fun hid O B H σ E d r hm Q q => ⟨hid, O, B, E, d, r, hm, q⟩
theorem DA.pa (h : DA X es mf) : PA X es (tAq X.K mf) := by
  obtain ⟨te, p, s⟩ := h
  exact ⟨fun w pins s0 σ H Q I h => p.run w pins s0 σ H Q I (by obtain ⟨hid, O, B, E, d, r, hm, q⟩ := h; exact s hid O B H σ E d r hm Q q)⟩
theorem DA.si (h : DA X es mf) : SA X.K (tAq X.K mf) mf := fun hid O B H σ E d r hm Q q => ⟨hid, O, B, E, d, r, hm, q⟩
theorem DAT.pa (h : DAT X es mf) : PA X es (tATq X.K mf) := by
  obtain ⟨te, p, s⟩ := h
  exact ⟨fun w pins s0 σ H Q I h => p.run w pins s0 σ H Q I (by obtain ⟨hid, O, B, E, d, r, hm, q⟩ := h; exact s hid O B H σ E d r hm Q q)⟩
theorem DAT.si (h : DAT X es mf) : SAT X.K (tATq X.K mf) mf := fun hid O B H σ E d r hm Q q => ⟨hid, O, B, E, d, r, hm, q⟩
theorem DO.po (h : DO X oe mo) : PO X oe (tOq X.K mo) := by
  obtain ⟨te, p, s⟩ := h
  exact ⟨fun pins s0 σ H Q I h => p.run pins s0 σ H Q I (by obtain ⟨hid, O, B, E, d, r, hm, q⟩ := h; exact s hid O B H σ E d r hm Q q)⟩
theorem DO.si (h : DO X oe mo) : SO X.K (tOq X.K mo) mo := fun hid O B H σ E d r hm Q q => ⟨hid, O, B, E, d, r, hm, q⟩
end

/-! ### the mirrors -/
@[simp] def mVar (i : Nat) : En → Option D := fun E => match E[i]? with
  | some (.fz d) => some d
  | _ => none
@[simp] def mVarT (i : Nat) : En → Option D := fun E => match E[i]? with
  | some (.fz d) => some d
  | some (.ow ds) => some (.lst ds)
  | _ => none
@[simp] def mC (d : D) : En → Option D := fun _ => some d
@[simp] def mBin (f : D → D → Option D) (a b : En → Option D) : En → Option D := fun E => (a E).bind fun x => (b E).bind fun y => f x y
@[simp] def mUn (f : D → Option D) (a : En → Option D) : En → Option D := fun E => (a E).bind f
@[simp] def mList (a : En → Option (List D)) : En → Option D := fun E => (a E).map .lst
@[simp] def mTup (a : En → Option (List D)) : En → Option D := fun E => (a E).bind fun ds => if ds.length ≤ 100000 then some (.tup ds) else none
@[simp] def mNil : En → Option (List D) := fun _ => some []
@[simp] def mCons (a : En → Option D) (b : En → Option (List D)) : En → Option (List D) := fun E => (a E).bind fun x => (b E).map fun xs => x :: xs
@[simp] def mLst (a : En → Option (List D)) : En → Option (List D) := fun E => (a E).bind fun ds => if ds.length ≤ 100000 then some ds else none

theorem bind_some {α β : Type} {x : Option α} {f : α → Option β} {b : β} (h : x.bind f = some b) : ∃ a, x = some a ∧ f a = some b := by
  cases x with
  | none => cases h
  | some a => exact ⟨a, rfl, h⟩
theorem map_some {α β : Type} {x : Option α} {f : α → β} {b : β} (h : x.map f = some b) : ∃ a, x = some a ∧ f a = b := by
  cases x with
  | none => cases h
  | some a => exact ⟨a, rfl, Option.some.inj h⟩
theorem ite_some {α : Type} {c : Prop} [Decidable c] {x y : α} (h : (if c then some x else none) = some y) : c ∧ x = y := by
  by_cases hc : c
  · rw [if_pos hc] at h
    exact ⟨hc, Option.some.inj h⟩
  · rw [if_neg hc] at h
    cases h

section
variable {X : Cx} {e a b : Expr} {te ta tb : TE} {m ma mb : En → Option D}
theorem DE.t (h : DE X e m) : DT X e m := ⟨_, h.pe, fun hid O B H σ E d r hm Q q => h.si hid O B H σ E d r hm Q fun v H' e x => q v H' e (.inl x)⟩
theorem DF.toE {mf : En → Option (List D)} (h : DF X e mf) : DE X e (mList mf) := ⟨_, h.pe, fun hid O B H σ E d r hm Q q => by
  obtain ⟨ds, h1, rfl⟩ := map_some hm
  exact h.si hid O B H σ E ds r h1 Q fun p xs H' hp ex hx hr => q _ H' ex (.lst (vis_new (r.fresh hp) hx) (hr.mono (rem_sub fun a z => .inl z) ds))⟩
theorem DF.t {mf : En → Option (List D)} (h : DF X e mf) : DT X e (mList mf) := h.toE.t

/-! ### names, constants -/
theorem dt_var (i : Nat) {x : Str} {pos : Pos} (hN : X.N[i]? = some x := by rfl) (hv : Vis X.env.scope x := by first | exact Or.inl rfl | exact Or.inr (Or.inl rfl) | exact Or.inr (Or.inr rfl)) (hd : (x == ("__debug__" : Str)) = false := by decide)
    (hcd : (x == ("__classdict__" : Str)) = false := by decide) : DT X (.Name x pos) (mVarT i) := ⟨_, pe_var hN hv hd hcd, fun hid O B H σ E d r hm Q q => by
  unfold mVarT at hm
  split at hm
  · rename_i d' h
    cases hm
    obtain ⟨v, h1, h2⟩ := r.fz i d h
    exact ⟨v, h1, q v H (Ex.refl H) (.inl h2)⟩
  · rename_i ds h
    cases hm
    obtain ⟨p, xs, h1, h2, h3, h4⟩ := r.ow i ds h
    exact ⟨.ref p, h1, q _ H (Ex.refl H) (.inr ⟨p, xs, ds, rfl, rfl, h2, h3, h4⟩)⟩
  · cases hm⟩
theorem de_var (i : Nat) {x : Str} {pos : Pos} (hN : X.N[i]? = some x := by rfl) (hv : Vis X.env.scope x := by first | exact Or.inl rfl | exact Or.inr (Or.inl rfl) | exact Or.inr (Or.inr rfl)) (hd : (x == ("__debug__" : Str)) = false := by decide)
    (hcd : (x == ("__classdict__" : Str)) = false := by decide) : DE X (.Name x pos) (mVar i) := ⟨_, pe_var hN hv hd hcd, fun hid O B H σ E d r hm Q q => by
  unfold mVar at hm
  split at hm
  · rename_i d' h
    cases hm
    obtain ⟨v, h1, h2⟩ := r.fz i d h
    exact ⟨v, h1, q v H (Ex.refl H) h2⟩
  · cases hm⟩
theorem se_c {K : PySem.W.Frag} {v : V} {d : D} (h : ∀ H, Rp K H v d) : SE K (tC v) (mC d) := fun hid O B H σ E d' r hm Q q => by
  cases hm
  exact q v H (Ex.refl H) (h _)
theorem de_int {i j pos} : DE X (.Constant (.int i) j pos) (mC (.int i)) := ⟨_, pe_int, se_c fun _ => .int i⟩
theorem de_bl {b j pos} : DE X (.Constant (.bool b) j pos) (mC (.bl b)) := ⟨_, pe_bl, se_c fun _ => .bl b⟩
theorem de_non {j pos} : DE X (.Constant .none j pos) (mC .non) := ⟨_, pe_non, se_c fun _ => .non⟩
theorem de_str {x j pos} : DE X (.Constant (.str x) j pos) (mC (.str x)) := ⟨_, pe_str, se_c fun _ => .str x⟩

/-! ### two-place operations -/
theorem st_bin {K : PySem.W.Frag} {r : R2} {f : D → D → Option D} (o : OD K r f) (ha : ST K ta ma) (hb : ST K tb mb) : SE K (tOp r ta tb) (mBin f ma mb) := fun hid O B H σ E d re hm Q q => by
  obtain ⟨x, h1, hm⟩ := bind_some hm
  obtain ⟨y, h2, hm⟩ := bind_some hm
  refine ha hid O B H σ E x re h1 _ fun v H1 e1 r1 => ?_
  refine hb hid O B H1 σ E y (re.grow e1) h2 _ fun u H2 e2 r2 => ?_
  exact o hid O H2 v u x y d (al_of (re.grow (e1.trans e2))) (r1.mono e2) r2 hm Q fun w H3 e3 r3 => q w H3 ((e1.trans e2).trans e3) r3
theorem de_op {op : Operator} {r : R2} {f : D → D → Option D} {pos : Pos} (ho : OpR X (binaryOp op) r) (o : OD X.K r f) (ha : DT X a ma) (hb : DT X b mb) : DE X (.BinOp a op b pos) (mBin f ma mb) :=
  ⟨_, pe_op ho ha.pe hb.pe, st_bin o ha.si hb.si⟩
theorem OD.or {K : PySem.W.Frag} {r r' : R2} {f g h : D → D → Option D} (o : OD K r f) (o' : OD K r' g) (c : ∀ a b d, h a b = some d → f a b = some d ∨ g a b = some d) : OD K (fun x y H Q => r x y H Q ∨ r' x y H Q) h := fun hid O H x y a b d al ra rb hm Q q => by
  rcases c a b d hm with z | z
  · exact .inl (o hid O H x y a b d al ra rb z Q q)
  · exact .inr (o' hid O H x y a b d al ra rb z Q q)
@[simp] def intOp (g : Int → Int → D) : D → D → Option D
  | .int i, .int j => some (g i j)
  | _, _ => none
@[simp] def intOpC (c : Int → Int → Bool) (g : Int → Int → D) : D → D → Option D
  | .int i, .int j => if c i j = true then some (g i j) else none
  | _, _ => none
theorem intOp_some {g : Int → Int → D} {a b d : D} (h : intOp g a b = some d) : ∃ i j, a = .int i ∧ b = .int j ∧ g i j = d := by
  unfold intOp at h
  split at h
  · exact ⟨_, _, rfl, rfl, Option.some.inj h⟩
  · cases h
theorem intOpC_some {c : Int → Int → Bool} {g : Int → Int → D} {a b d : D} (h : intOpC c g a b = some d) : ∃ i j, a = .int i ∧ b = .int j ∧ c i j = true ∧ g i j = d := by
  unfold intOpC at h
  split at h
  · obtain ⟨h1, h2⟩ := ite_some h
    exact ⟨_, _, rfl, rfl, h1, h2⟩
  · cases h
theorem od_I0 {K : PySem.W.Frag} {g : Int → Int → V} {f : Int → Int → D} (h : ∀ i j H, Rp K H (g i j) (f i j)) : OD K (rI0 g) (intOp f) := fun hid O H x y a b d al ra rb hm Q q => by
  obtain ⟨i, j, rfl, rfl, rfl⟩ := intOp_some hm
  exact ⟨i, j, ra.int, rb.int, q _ H (Ex.refl H) (h i j _)⟩
theorem od_I {K : PySem.W.Frag} {C : Int → Int → Prop} {c : Int → Int → Bool} {g : Int → Int → V} {f : Int → Int → D} (hc : ∀ i j, c i j = true → C i j) (h : ∀ i j H, Rp K H (g i j) (f i j)) : OD K (rI C g) (intOpC c f) := fun hid O H x y a b d al ra rb hm Q q => by
  obtain ⟨i, j, rfl, rfl, z, rfl⟩ := intOpC_some hm
  exact ⟨i, j, ra.int, rb.int, hc i j z, q _ H (Ex.refl H) (h i j _)⟩
@[simp] def addD : D → D → Option D
  | .int i, .int j => some (.int (i + j))
  | .str a, .str b => if a.length + b.length ≤ 100000 then some (.str (a ++ b)) else none
  | .lst a, .lst b => if a.length + b.length ≤ 100000 then some (.lst (a ++ b)) else none
  | .tup a, .tup b => if a.length + b.length ≤ 100000 then some (.tup (a ++ b)) else none
  | _, _ => none
@[simp] def catD : D → D → Option (List D)
  | .lst a, .lst b => if a.length + b.length ≤ 100000 then some (a ++ b) else none
  | _, _ => none
theorem catD_some {a b : D} {ds : List D} (h : catD a b = some ds) : ∃ x y, a = .lst x ∧ b = .lst y ∧ x.length + y.length ≤ 100000 ∧ x ++ y = ds := by
  unfold catD at h
  split at h
  · obtain ⟨h1, h2⟩ := ite_some h
    exact ⟨_, _, rfl, rfl, h1, h2⟩
  · cases h
theorem size_le {n : Nat} (h : n ≤ 100000) : n ≤ sizeLine := Nat.le_trans h (by decide)
theorem size_lt {n : Nat} (h : n < 100000) : n < sizeLine := Nat.lt_of_lt_of_le h (by decide)
abbrev rAddS : R2 := fun x y H Q => ∃ i j, x = .str i ∧ y = .str j ∧ i.length + j.length ≤ sizeLine ∧ Q (.str (i ++ j)) H
abbrev rAddAll (K : PySem.W.Frag) : R2 := fun x y H Q => rI0 (fun i j => .int (i + j)) x y H Q ∨ (rAddS x y H Q ∨ (rCat x y H Q ∨ rCatA K x y H Q))
theorem op_addAll : OpR X (binaryOp .Add) (rAddAll X.K) := OpR.or op_add (OpR.or op_add_str (OpR.or op_cat op_catA))
theorem od_add {K : PySem.W.Frag} : OD K (rAddAll K) addD := fun hid O H x y a b d al ra rb hm Q q => by
  unfold addD at hm
  split at hm
  · cases hm
    exact .inl ⟨_, _, ra.int, rb.int, q _ H (Ex.refl H) (.int _)⟩
  · obtain ⟨h1, rfl⟩ := ite_some hm
    exact .inr (.inl ⟨_, _, ra.str, rb.str, size_le h1, q _ H (Ex.refl H) (.str _)⟩)
  · obtain ⟨h1, rfl⟩ := ite_some hm
    obtain ⟨p, xs, rfl, p1, p2⟩ := ra.lst
    obtain ⟨p', ys, rfl, p1', p2'⟩ := rb.lst
    refine .inr (.inr (.inl ⟨p, p', xs, ys, rfl, rfl, p1, p1', by rw [p2.length, p2'.length]; exact size_le h1, fun l hl => ?_⟩))
    have ex : Ex H (upd H l (.lst (xs ++ ys))) := Ex.new hl
    exact q _ _ ex (.lst (vis_new (al l hl) upd_same) ((p2.app p2').mono (rem_mono ex) _))
  · obtain ⟨h1, rfl⟩ := ite_some hm
    obtain ⟨p, xs, rfl, p1, p2⟩ := ra.tup
    obtain ⟨p', ys, rfl, p1', p2'⟩ := rb.tup
    refine .inr (.inr (.inr ⟨p, p', xs, ys, rfl, rfl, Evl.ex_t rem_ex p1, Evl.ex_t rem_ex p1', by rw [p2.length, p2'.length]; exact size_le h1, fun z => ?_, fun z1 z2 => ?_, fun z1 z2 l hl => ?_⟩))
    · subst z
      cases p2
      exact q _ H (Ex.refl H) (.tup p1' p2')
    · subst z2
      cases p2'
      rw [List.append_nil] at q
      exact q _ H (Ex.refl H) (.tup p1 p2)
    · have ex : Ex H (upd H l (.tup (xs ++ ys))) := Ex.new hl
      exact q _ _ ex (.tup (Evl.st_of (vis_new (al l hl) upd_same)) ((p2.app p2').mono (rem_mono ex) _))
  · cases hm
theorem de_add {pos : Pos} (ha : DT X a ma) (hb : DT X b mb) : DE X (.BinOp a .Add b pos) (mBin addD ma mb) := de_op op_addAll od_add ha hb
theorem df_add {pos : Pos} (ha : DT X a ma) (hb : DT X b mb) : DF X (.BinOp a .Add b pos) (fun E => (ma E).bind fun x => (mb E).bind fun y => catD x y) := ⟨_, pe_op op_cat ha.pe hb.pe, fun hid O B H σ E ds re hm Q q => by
  obtain ⟨x, h1, hm⟩ := bind_some hm
  obtain ⟨y, h2, hm⟩ := bind_some hm
  obtain ⟨as, bs, rfl, rfl, h3, rfl⟩ := catD_some hm
  refine ha.si hid O B H σ E _ re h1 _ fun v H1 e1 r1 => ?_
  refine hb.si hid O B H1 σ E _ (re.grow e1) h2 _ fun u H2 e2 r2 => ?_
  obtain ⟨p, xs, rfl, p1, p2⟩ := (r1.mono e2).lst
  obtain ⟨p', ys, rfl, p1', p2'⟩ := r2.lst
  refine ⟨p, p', xs, ys, rfl, rfl, p1, p1', by rw [p2.length, p2'.length]; exact size_le h3, fun l hl => ?_⟩
  have ex : Ex H2 (upd H2 l (.lst (xs ++ ys))) := Ex.new hl
  exact q l _ _ (Evl.fresh_back (e1.trans e2) hl) ((e1.trans e2).trans ex) upd_same ((p2.app p2').mono (rem_new hl ex) _)⟩
theorem de_sub {pos : Pos} (ha : DT X a ma) (hb : DT X b mb) : DE X (.BinOp a .Sub b pos) (mBin (intOp fun i j => .int (i - j)) ma mb) := de_op op_sub (od_I0 fun i j _ => .int _) ha hb
def mulOk (i j : Int) : Bool := decide (i.natAbs < 2 ^ 64) || decide (j.natAbs < 2 ^ 64)
theorem mulOk_C {i j : Int} (h : mulOk i j = true) : CMul i j := by
  unfold mulOk at h
  rcases Bool.or_eq_true_iff.mp h with h | h
  · have h := of_decide_eq_true h
    exact .inl (by omega)
  · have h := of_decide_eq_true h
    exact .inr (by omega)
theorem de_mul {pos : Pos} (ha : DT X a ma) (hb : DT X b mb) : DE X (.BinOp a .Mult b pos) (mBin (intOpC mulOk fun i j => .int (i * j)) ma mb) := de_op op_mul (od_I (fun _ _ => mulOk_C) fun i j _ => .int _) ha hb
def divOk (_ j : Int) : Bool := decide (0 < j) && decide (j < 1073741824)
theorem de_fdiv {pos : Pos} (ha : DT X a ma) (hb : DT X b mb) : DE X (.BinOp a .FloorDiv b pos) (mBin (intOpC divOk fun i j => .int (i / j)) ma mb) :=
  de_op op_fdiv (od_I (fun i j h => by
    unfold divOk at h
    obtain ⟨h1, h2⟩ := Bool.and_eq_true_iff.mp h
    exact ⟨of_decide_eq_true h1, of_decide_eq_true h2⟩) fun i j _ => .int _) ha hb
theorem de_mod {pos : Pos} (ha : DT X a ma) (hb : DT X b mb) : DE X (.BinOp a .Mod b pos) (mBin (intOpC (fun _ j => decide (0 < j)) fun i j => .int (i % j)) ma mb) :=
  de_op op_mod (od_I (fun i j h => of_decide_eq_true h) fun i j _ => .int _) ha hb
def powOk (i j : Int) : Bool := decide (0 ≤ j) && decide (j ≤ 1000000) && decide (i.natAbs < 2 ^ 64)
theorem de_pow {pos : Pos} (ha : DT X a ma) (hb : DT X b mb) : DE X (.BinOp a .Pow b pos) (mBin (intOpC powOk fun i j => .int (i ^ j.toNat)) ma mb) :=
  de_op op_pow (od_I (fun i j h => by
    unfold powOk at h
    obtain ⟨h0, h3⟩ := Bool.and_eq_true_iff.mp h
    obtain ⟨h1, h2⟩ := Bool.and_eq_true_iff.mp h0
    exact ⟨of_decide_eq_true h1, of_decide_eq_true h2, of_decide_eq_true h3⟩) fun i j _ => .int _) ha hb
/-- a list times an int -/
@[simp] def repD : D → D → Option (List D)
  | .lst a, .int k => if k ≤ 100000 ∧ a.length * k.toNat ≤ 100000 ∧ -100000 ≤ k then some (List.replicate k.toNat a).flatten else none
  | _, _ => none
theorem repD_some {a b : D} {ds : List D} (h : repD a b = some ds) : ∃ x k, a = .lst x ∧ b = .int k ∧ k ≤ 100000 ∧ x.length * k.toNat ≤ 100000 ∧ -100000 ≤ k ∧ (List.replicate k.toNat x).flatten = ds := by
  unfold repD at h
  split at h
  · obtain ⟨⟨h1, h2, h3⟩, h4⟩ := ite_some h
    exact ⟨_, _, rfl, rfl, h1, h2, h3, h4⟩
  · cases h
theorem df_rep {pos : Pos} (ha : DT X a ma) (hb : DT X b mb) : DF X (.BinOp a .Mult b pos) (fun E => (ma E).bind fun x => (mb E).bind fun y => repD x y) := ⟨_, pe_op op_rep ha.pe hb.pe, fun hid O B H σ E ds re hm Q q => by
  obtain ⟨x, h1, hm⟩ := bind_some hm
  obtain ⟨y, h2, hm⟩ := bind_some hm
  obtain ⟨as, k, rfl, rfl, h3, h4, h5, rfl⟩ := repD_some hm
  · refine ha.si hid O B H σ E _ re h1 _ fun v H1 e1 r1 => ?_
    refine hb.si hid O B H1 σ E _ (re.grow e1) h2 _ fun u H2 e2 r2 => ?_
    obtain ⟨p, xs, rfl, p1, p2⟩ := (r1.mono e2).lst
    obtain rfl := r2.int
    refine ⟨p, k, xs, rfl, rfl, p1, by omega, by omega, by rw [p2.length]; exact size_le h4, fun l hl => ?_⟩
    have ex : Ex H2 (upd H2 l (.lst (List.replicate k.toNat xs).flatten)) := Ex.new hl
    exact q l _ _ (Evl.fresh_back (e1.trans e2) hl) ((e1.trans e2).trans ex) upd_same ((RpL.rep k.toNat p2).mono (rem_new hl ex) _)⟩
/-- - x -/
@[simp] def negD : D → Option D
  | .int i => some (.int (-i))
  | _ => none
theorem de_neg {pos : Pos} (ha : DT X a ma) : DE X (.UnaryOp .USub a pos) (mUn negD ma) := ⟨_, pe_un un_neg ha.pe, fun hid O B H σ E d re hm Q q => by
  obtain ⟨x, h1, hm⟩ := bind_some hm
  unfold negD at hm
  split at hm
  · cases hm
    refine ha.si hid O B H σ E _ re h1 _ fun v H1 e1 r1 => ?_
    exact ⟨_, r1.int, q _ H1 e1 (.int _)⟩
  · cases hm⟩

/-! ### comparisons -/
def bI (g : Int → Int → Bool) : Int → Int → D := fun i j => .bl (g i j)
theorem od_lt {K : PySem.W.Frag} : OD K (rI0 fun i j => .bl (decide (i < j))) (intOp fun i j => .bl (decide (i < j))) := od_I0 fun i j _ => .bl _
theorem od_le {K : PySem.W.Frag} : OD K (rI0 fun i j => .bl (decide (i ≤ j))) (intOp fun i j => .bl (decide (i ≤ j))) := od_I0 fun i j _ => .bl _
theorem od_gt {K : PySem.W.Frag} : OD K (rI0 fun i j => .bl (decide (j < i))) (intOp fun i j => .bl (decide (j < i))) := od_I0 fun i j _ => .bl _
theorem od_ge {K : PySem.W.Frag} : OD K (rI0 fun i j => .bl (decide (j ≤ i))) (intOp fun i j => .bl (decide (j ≤ i))) := od_I0 fun i j _ => .bl _
mutual
def D.py : D → PyData
  | .non => .none
  | .bl b => .bool b
  | .int i => .int i
  | .str x => .str x
  | .lst xs => .list (D.pys xs)
  | .tup xs => .tuple (D.pys xs)
  | .scr ns => .list (ns.map .int)
def D.pys : List D → List PyData
  | [] => []
  | d :: ds => D.py d :: D.pys ds
end
section
variable {K : PySem.W.Frag} {H : Hp}
theorem dp_ints : ∀ (ns : List Int), DpAll K H (ns.map V.int) (ns.map PyData.int)
  | [] => .nil
  | n :: ns => .cons (.int n) (dp_ints ns)
mutual
theorem Rp.dp : ∀ (d : D) {v : V}, Rp K H v d → Dp K H v d.py
  | .non, _, h => by cases h; exact .non
  | .bl b, _, h => by cases h; exact .bl b
  | .int i, _, h => by cases h; exact .int i
  | .str x, _, h => by cases h; exact .str x
  | .lst ds, _, h => by
    cases h with
    | lst h1 h2 =>
      rw [D.py]
      exact .lst (.inl (.inl h1)) (RpL.dp ds h2)
  | .tup ds, _, h => by
    cases h with
    | tup h1 h2 =>
      rw [D.py]
      exact .tup h1 (RpL.dp ds h2)
  | .scr ns, _, h => by
    cases h with
    | scr h1 =>
      rw [D.py]
      exact .lst h1 (dp_ints ns)
theorem RpL.dp : ∀ (ds : List D) {vs : List V}, RpL K H vs ds → DpAll K H vs (D.pys ds)
  | [], _, h => by
    cases h
    rw [D.pys]
    exact .nil
  | d :: ds, _, h => by
    cases h with
    | cons h1 h2 =>
      rw [D.pys]
      exact .cons (Rp.dp d h1) (RpL.dp ds h2)
end
end
@[simp] def eqB : D → D → Option Bool
  | .int i, .int j => some (decide (i = j))
  | .str i, .str j => some (decide (i = j))
  | .bl i, .bl j => some (decide (i = j))
  | .non, .non => some true
  | .non, .int _ => some false
  | .int _, .non => some false
  | a, b => if SeqAt.shaped a.py = true ∧ SeqAt.shaped b.py = true then some (PyData.eqv a.py b.py) else none
@[simp] def eqD (a b : D) : Option D := (eqB a b).map .bl
@[simp] def neD (a b : D) : Option D := (eqB a b).map fun c => .bl (!c)
abbrev rEqAll (K : PySem.W.Frag) : R2 := fun x y H Q => rEq x y H Q ∨ rEqD K x y H Q
abbrev rNeAll (K : PySem.W.Frag) : R2 := fun x y H Q => rNe x y H Q ∨ rNeD K x y H Q
theorem eq_cases {K : PySem.W.Frag} {hid O : AS} {H : Hp} {x y : V} {a b : D} {c : Bool} (ra : Tv K hid O H x a) (rb : Tv K hid O H y b) (h : eqB a b = some c) :
    (scal x y = true ∧ decide (x = y) = c) ∨ (Dp K H x a.py ∧ Dp K H y b.py ∧ SeqAt.shaped a.py = true ∧ SeqAt.shaped b.py = true ∧ PyData.eqv a.py b.py = c) := by
  unfold eqB at h
  split at h
  · obtain rfl := ra.int; obtain rfl := rb.int
    refine .inl ⟨rfl, ?_⟩
    rw [← Option.some.inj h]
    simp only [V.int.injEq]
  · obtain rfl := ra.str; obtain rfl := rb.str
    refine .inl ⟨rfl, ?_⟩
    rw [← Option.some.inj h]
    simp only [V.str.injEq]
  · obtain rfl := ra.bl; obtain rfl := rb.bl
    refine .inl ⟨rfl, ?_⟩
    rw [← Option.some.inj h]
    simp only [V.bl.injEq]
  · obtain rfl := ra.non; obtain rfl := rb.non
    exact .inl ⟨rfl, Option.some.inj h⟩
  · obtain rfl := ra.non; obtain rfl := rb.int
    exact .inl ⟨rfl, Option.some.inj h⟩
  · obtain rfl := ra.int; obtain rfl := rb.non
    exact .inl ⟨rfl, Option.some.inj h⟩
  · obtain ⟨⟨h1, h2⟩, h3⟩ := ite_some h
    exact .inr ⟨Rp.dp _ ra.full, Rp.dp _ rb.full, h1, h2, h3⟩
theorem od_eq {K : PySem.W.Frag} : OD K (rEqAll K) eqD := fun hid O H x y a b d al ra rb hm Q q => by
  obtain ⟨c, h, rfl⟩ := map_some hm
  rcases eq_cases ra rb h with ⟨h1, h2⟩ | ⟨h1, h2, h3, h4, h5⟩
  · refine .inl ⟨h1, ?_⟩
    rw [h2]
    exact q _ H (Ex.refl H) (.bl c)
  · refine .inr ⟨_, _, h1, h2, h3, h4, ?_⟩
    rw [h5]
    exact q _ H (Ex.refl H) (.bl c)
theorem od_ne {K : PySem.W.Frag} : OD K (rNeAll K) neD := fun hid O H x y a b d al ra rb hm Q q => by
  obtain ⟨c, h, rfl⟩ := map_some hm
  rcases eq_cases ra rb h with ⟨h1, h2⟩ | ⟨h1, h2, h3, h4, h5⟩
  · refine .inl ⟨h1, ?_⟩
    rw [h2]
    exact q _ H (Ex.refl H) (.bl _)
  · refine .inr ⟨_, _, h1, h2, h3, h4, ?_⟩
    rw [h5]
    exact q _ H (Ex.refl H) (.bl _)
theorem op_eqAll {k : Nat} {A : Around} (hr : Room k A) (hA : X.A = A := by rfl) : OpR X (compareOp .Eq) (rEqAll X.K) := OpR.or op_eq (op_eqD (by rw [hA]; exact hr.units))
theorem op_neAll {k : Nat} {A : Around} (hr : Room k A) (hA : X.A = A := by rfl) : OpR X (compareOp .NotEq) (rNeAll X.K) := OpR.or op_ne (op_neD (by rw [hA]; exact hr.units))
theorem de_cmp {op : CmpOp} {r : R2} {f : D → D → Option D} {pos : Pos} (ho : OpR X (compareOp op) r) (o : OD X.K r f) (ha : DT X a ma) (hb : DT X b mb) (hm : behindInMarks op b = false := by first | exact nomark _ | with_unfolding_all rfl) :
    DE X (.Compare a [op] [b] pos) (mBin f ma mb) := ⟨_, pe_cmpR ho ha.pe hb.pe hm, st_bin o ha.si hb.si⟩
@[simp] def blOf : D → Option Bool
  | .bl b => some b
  | _ => none
theorem blOf_some {d : D} {b : Bool} (h : blOf d = some b) : d = .bl b := by
  unfold blOf at h
  split at h
  · cases h; rfl
  · cases h
theorem db_cmp {op : CmpOp} {r : R2} {f : D → D → Option D} {pos : Pos} (ho : OpR X (compareOp op) r) (o : OD X.K r f) (ha : DT X a ma) (hb : DT X b mb) (hm : behindInMarks op b = false := by first | exact nomark _ | with_unfolding_all rfl) :
    DB X (.Compare a [op] [b] pos) (fun E => (mBin f ma mb E).bind blOf) := ⟨_, pt_cmpR ho ha.pe hb.pe hm, fun hid O B H σ E c re hm Q q => by
  obtain ⟨x, h1, hm⟩ := bind_some hm
  cases blOf_some hm
  exact st_bin o ha.si hb.si hid O B H σ E _ re h1 _ fun v H1 e1 r1 => by
    cases r1
    exact ⟨c, rfl, q H1 e1⟩⟩
/-- a op b op c -/
@[simp] def mChain (f g : D → D → Option D) (a b c : En → Option D) : En → Option D := fun E => (a E).bind fun x => (b E).bind fun y => (f x y).bind fun z => match z with
  | .bl true => (c E).bind fun w => g y w
  | .bl false => some (.bl false)
  | _ => none
theorem st_chain {K : PySem.W.Frag} {r r' : R2} {f g : D → D → Option D} {tc : TE} {mc : En → Option D} (o : OD K r f) (o' : OD K r' g) (ha : ST K ta ma) (hb : ST K tb mb) (hc : ST K tc mc) : SE K (tChain r r' ta tb tc) (mChain f g ma mb mc) := fun hid O B H σ E d re hm Q q => by
  obtain ⟨x, h1, hm⟩ := bind_some hm
  obtain ⟨y, h2, hm⟩ := bind_some hm
  obtain ⟨z, h3, hm⟩ := bind_some hm
  refine ha hid O B H σ E x re h1 _ fun v H1 e1 r1 => ?_
  refine hb hid O B H1 σ E y (re.grow e1) h2 _ fun u H2 e2 r2 => ?_
  refine o hid O H2 v u x y z (al_of (re.grow (e1.trans e2))) (r1.mono e2) r2 h3 _ fun w H3 e3 r3 => ?_
  have e123 := (e1.trans e2).trans e3
  split at hm
  · cases r3
    refine ⟨true, rfl, ?_⟩
    rw [if_pos rfl]
    obtain ⟨w', h4, hm⟩ := bind_some hm
    refine hc hid O B H3 σ E w' (re.grow e123) h4 _ fun u4 H4 e4 r4 => ?_
    exact o' hid O H4 u u4 y w' d (al_of (re.grow (e123.trans e4))) ((r2.mono e3).mono e4) r4 hm Q fun w5 H5 e5 r5 => q w5 H5 ((e123.trans e4).trans e5) r5
  · cases r3
    cases hm
    refine ⟨false, rfl, ?_⟩
    rw [if_neg Bool.false_ne_true]
    exact q _ H3 e123 (.bl false)
  · cases hm
theorem de_chain {op op' : CmpOp} {r r' : R2} {f g : D → D → Option D} {c : Expr} {mc : En → Option D} {pos : Pos} (ho : OpR X (compareOp op) r) (o : OD X.K r f) (ho' : OpR X (compareOp op') r') (o' : OD X.K r' g) (ha : DT X a ma) (hb : DT X b mb) (hc : DT X c mc)
    (hm : lastMarks [op, op'] [b, c] = false := by with_unfolding_all rfl) : DE X (.Compare a [op, op'] [b, c] pos) (mChain f g ma mb mc) := ⟨_, pe_chain ho ho' ha.pe hb.pe hc.pe hm, st_chain o o' ha.si hb.si hc.si⟩
theorem db_chain {op op' : CmpOp} {r r' : R2} {f g : D → D → Option D} {c : Expr} {mc : En → Option D} {pos : Pos} (ho : OpR X (compareOp op) r) (o : OD X.K r f) (ho' : OpR X (compareOp op') r') (o' : OD X.K r' g) (ha : DT X a ma) (hb : DT X b mb) (hc : DT X c mc)
    (hm : lastMarks [op, op'] [b, c] = false := by with_unfolding_all rfl) : DB X (.Compare a [op, op'] [b, c] pos) (fun E => (mChain f g ma mb mc E).bind blOf) := ⟨_, pt_chain ho ho' ha.pe hb.pe hc.pe hm, fun hid O B H σ E c re hm Q q => by
  obtain ⟨x, h1, hm⟩ := bind_some hm
  cases blOf_some hm
  exact st_chain o o' ha.si hb.si hc.si hid O B H σ E _ re h1 _ fun v H1 e1 r1 => by
    cases r1
    exact ⟨c, rfl, q H1 e1⟩⟩
/-- is None, is not None -/
@[simp] def isN : D → Bool
  | .non => true
  | _ => false
theorem isN_ok {K : PySem.W.Frag} {hid O : AS} {H : Hp} {v : V} {d : D} (h : Tv K hid O H v d) : decide (v = .non) = isN d := by
  rcases h with h | ⟨p, xs, ds, rfl, rfl, _⟩
  · cases h <;> rfl
  · rfl
theorem de_isN {j pos' pos} (ha : DT X a ma) : DE X (.Compare a [.Is] [.Constant .none j pos'] pos) (mUn (fun d => some (.bl (isN d))) ma) := ⟨_, pe_cmp (pc_isN ha.pe), fun hid O B H σ E d re hm Q q => by
  obtain ⟨x, h1, hm⟩ := bind_some hm
  cases hm
  refine ha.si hid O B H σ E x re h1 _ fun v H1 e1 r1 => ?_
  rw [isN_ok r1]
  exact q _ H1 e1 (.bl _)⟩
theorem de_notN {j pos' pos} (ha : DT X a ma) : DE X (.Compare a [.IsNot] [.Constant .none j pos'] pos) (mUn (fun d => some (.bl (!isN d))) ma) := ⟨_, pe_cmp (pc_notN ha.pe), fun hid O B H σ E d re hm Q q => by
  obtain ⟨x, h1, hm⟩ := bind_some hm
  cases hm
  refine ha.si hid O B H σ E x re h1 _ fun v H1 e1 r1 => ?_
  rw [isN_ok r1]
  exact q _ H1 e1 (.bl _)⟩
theorem db_isN {j pos' pos} (ha : DT X a ma) : DB X (.Compare a [.Is] [.Constant .none j pos'] pos) (fun E => (ma E).map isN) := ⟨_, pt_cmp (pc_isN ha.pe), fun hid O B H σ E d re hm Q q => by
  obtain ⟨x, h1, rfl⟩ := map_some hm
  refine ha.si hid O B H σ E x re h1 _ fun v H1 e1 r1 => ?_
  rw [isN_ok r1]
  exact ⟨_, rfl, q H1 e1⟩⟩
theorem db_notN {j pos' pos} (ha : DT X a ma) : DB X (.Compare a [.IsNot] [.Constant .none j pos'] pos) (fun E => (ma E).map fun d => !isN d) := ⟨_, pt_cmp (pc_notN ha.pe), fun hid O B H σ E d re hm Q q => by
  obtain ⟨x, h1, rfl⟩ := map_some hm
  refine ha.si hid O B H σ E x re h1 _ fun v H1 e1 r1 => ?_
  rw [isN_ok r1]
  exact ⟨_, rfl, q H1 e1⟩⟩

/-! ### truth -/
@[simp] def truD : D → Option Bool
  | .non => some false
  | .bl b => some b
  | .int i => some (i != 0)
  | .str x => if x.length ≤ 100000 then some ((x.length : Int) != 0) else none
  | .lst ds => some (!ds.isEmpty)
  | .tup ds => some (!ds.isEmpty)
  | .scr ns => some (!ns.isEmpty)
theorem isEmpty_rp {K : PySem.W.Frag} {H : Hp} {vs : List V} {ds : List D} (h : RpL K H vs ds) : (!vs.isEmpty) = !ds.isEmpty := by
  cases h <;> rfl
theorem truD_ok {K : PySem.W.Frag} {hid O : AS} {H : Hp} {v : V} {d : D} {b : Bool} (h : Tv K hid O H v d) (hb : truD d = some b) : TruV K v H b := by
  cases d with
  | non => obtain rfl := h.non; exact (Option.some.inj hb).symm
  | bl c => obtain rfl := h.bl; exact (Option.some.inj hb).symm
  | int i => obtain rfl := h.int; exact (Option.some.inj hb).symm
  | str x =>
    obtain rfl := h.str
    unfold truD at hb
    obtain ⟨h1, h2⟩ := ite_some hb
    exact ⟨size_le h1, h2.symm⟩
  | lst ds =>
    obtain ⟨p, xs, rfl, h1, h2⟩ := h.lst
    exact .inl ⟨xs, .inl (.inl h1), by rw [isEmpty_rp h2]; exact (Option.some.inj hb).symm⟩
  | tup ds =>
    obtain ⟨p, xs, rfl, h1, h2⟩ := h.tup
    exact .inr (.inl ⟨xs, Evl.ex_t rem_ex h1, by rw [isEmpty_rp h2]; exact (Option.some.inj hb).symm⟩)
  | scr ns =>
    obtain ⟨p, rfl, h1⟩ := h.scr
    refine .inl ⟨_, h1, ?_⟩
    rw [← Option.some.inj hb]
    cases ns <;> rfl
/-- any expression whose test is its value's truth -/
theorem db_tru (ha : DT X a ma) (he : ∀ whole, isTrue a X.env whole = (do let v ← whole; standAt a.pos; holding [v] (truthy v)) := by intro _; rfl) : DB X a (fun E => (ma E).bind truD) := ⟨_, pt_truth ha.pe he, fun hid O B H σ E b re hm Q q => by
  obtain ⟨x, h1, hm⟩ := bind_some hm
  exact ha.si hid O B H σ E x re h1 _ fun v H1 e1 r1 => ⟨b, truD_ok r1 hm, q H1 e1⟩⟩
@[simp] def mNot (a : En → Option Bool) : En → Option Bool := fun E => (a E).map (!·)
@[simp] def mAnd (a b : En → Option Bool) : En → Option Bool := fun E => (a E).bind fun x => if x = true then b E else some false
@[simp] def mOr (a b : En → Option Bool) : En → Option Bool := fun E => (a E).bind fun x => if x = true then some true else b E
theorem db_not {m : En → Option Bool} {pos : Pos} (ha : DB X a m) : DB X (.UnaryOp .Not a pos) (mNot m) := ⟨_, pt_not ha.pt, fun hid O B H σ E b re hm Q q => by
  obtain ⟨x, h1, rfl⟩ := map_some hm
  exact ha.si hid O B H σ E x re h1 _ fun H1 e1 => q H1 e1⟩
theorem dw_and1 {m : En → Option Bool} {pos : Pos} (ha : DB X a m) : DW X (.BoolOp .And [a] pos) m := ⟨_, pw_and1 ha.pt, ha.si⟩
theorem dw_or1 {m : En → Option Bool} {pos : Pos} (ha : DB X a m) : DW X (.BoolOp .Or [a] pos) m := ⟨_, pw_or1 ha.pt, ha.si⟩
theorem dw_and {m n : En → Option Bool} {pos : Pos} {rest : List Expr} (ha : DB X a m) (hb : DW X (.BoolOp .And (b :: rest) pos) n) : DW X (.BoolOp .And (a :: b :: rest) pos) (mAnd m n) := ⟨_, pw_and ha.pt hb.pw, fun hid O B H σ E c re hm Q q => by
  obtain ⟨x, h1, hm⟩ := bind_some hm
  refine ha.si hid O B H σ E x re h1 _ fun H1 e1 => ?_
  cases x with
  | true =>
    rw [if_pos rfl] at hm ⊢
    exact hb.si hid O B H1 σ E c (re.grow e1) hm Q fun H2 e2 => q H2 (e1.trans e2)
  | false =>
    rw [if_neg Bool.false_ne_true] at hm ⊢
    cases hm
    exact q H1 e1⟩
theorem dw_or {m n : En → Option Bool} {pos : Pos} {rest : List Expr} (ha : DB X a m) (hb : DW X (.BoolOp .Or (b :: rest) pos) n) : DW X (.BoolOp .Or (a :: b :: rest) pos) (mOr m n) := ⟨_, pw_or ha.pt hb.pw, fun hid O B H σ E c re hm Q q => by
  obtain ⟨x, h1, hm⟩ := bind_some hm
  refine ha.si hid O B H σ E x re h1 _ fun H1 e1 => ?_
  cases x with
  | true =>
    rw [if_pos rfl] at hm ⊢
    cases hm
    exact q H1 e1
  | false =>
    rw [if_neg Bool.false_ne_true] at hm ⊢
    exact hb.si hid O B H1 σ E c (re.grow e1) hm Q fun H2 e2 => q H2 (e1.trans e2)⟩
theorem DW.toB {m : En → Option Bool} (h : DW X e m) : DB X e m := ⟨_, h.pw.pt, h.si⟩
/-- and, or, not as values -/
@[simp] def mAndV (a b : En → Option D) : En → Option D := fun E => (a E).bind fun x => (truD x).bind fun k => if k = true then b E else some x
@[simp] def mOrV (a b : En → Option D) : En → Option D := fun E => (a E).bind fun x => (truD x).bind fun k => if k = true then some x else b E
theorem de_one {op} {pos : Pos} (h : DE X a ma) : DE X (.BoolOp op [a] pos) ma := ⟨_, pe_one h.pe, h.si⟩
theorem de_and {pos : Pos} {rest : List Expr} (ha : DE X a ma) (hb : DE X (.BoolOp .And (b :: rest) pos) mb) : DE X (.BoolOp .And (a :: b :: rest) pos) (mAndV ma mb) := ⟨_, pe_andT ha.pe hb.pe, fun hid O B H σ E d re hm Q q => by
  obtain ⟨x, h1, hm⟩ := bind_some hm
  obtain ⟨k, h2, hm⟩ := bind_some hm
  refine ha.si hid O B H σ E x re h1 _ fun v H1 e1 r1 => ⟨k, truD_ok (.inl r1) h2, ?_⟩
  cases k with
  | true =>
    rw [if_pos rfl] at hm ⊢
    exact hb.si hid O B H1 σ E d (re.grow e1) hm Q fun u H2 e2 r2 => q u H2 (e1.trans e2) r2
  | false =>
    rw [if_neg Bool.false_ne_true] at hm ⊢
    cases hm
    exact q v H1 e1 r1⟩
theorem de_or {pos : Pos} {rest : List Expr} (ha : DE X a ma) (hb : DE X (.BoolOp .Or (b :: rest) pos) mb) : DE X (.BoolOp .Or (a :: b :: rest) pos) (mOrV ma mb) := ⟨_, pe_orT ha.pe hb.pe, fun hid O B H σ E d re hm Q q => by
  obtain ⟨x, h1, hm⟩ := bind_some hm
  obtain ⟨k, h2, hm⟩ := bind_some hm
  refine ha.si hid O B H σ E x re h1 _ fun v H1 e1 r1 => ⟨k, truD_ok (.inl r1) h2, ?_⟩
  cases k with
  | true =>
    rw [if_pos rfl] at hm ⊢
    cases hm
    exact q v H1 e1 r1
  | false =>
    rw [if_neg Bool.false_ne_true] at hm ⊢
    exact hb.si hid O B H1 σ E d (re.grow e1) hm Q fun u H2 e2 r2 => q u H2 (e1.trans e2) r2⟩
theorem de_not {pos : Pos} (ha : DT X a ma) : DE X (.UnaryOp .Not a pos) (mUn (fun d => (truD d).map fun k => .bl (!k)) ma) := ⟨_, pe_notT ha.pe, fun hid O B H σ E d re hm Q q => by
  obtain ⟨x, h1, hm⟩ := bind_some hm
  obtain ⟨k, h2, rfl⟩ := map_some hm
  exact ha.si hid O B H σ E x re h1 _ fun v H1 e1 r1 => ⟨k, truD_ok r1 h2, q _ H1 e1 (.bl _)⟩⟩
@[simp] def mIf (c : En → Option Bool) (a b : En → Option D) : En → Option D := fun E => (c E).bind fun k => if k = true then a E else b E
theorem de_if {c : Expr} {mc : En → Option Bool} {pos : Pos} (hc : DB X c mc) (ha : DE X a ma) (hb : DE X b mb) : DE X (.IfExp c a b pos) (mIf mc ma mb) := ⟨_, pe_ifExp hc.pt ha.pe hb.pe, fun hid O B H σ E d re hm Q q => by
  obtain ⟨k, h1, hm⟩ := bind_some hm
  refine hc.si hid O B H σ E k re h1 _ fun H1 e1 => ?_
  cases k with
  | true =>
    rw [if_pos rfl] at hm ⊢
    exact ha.si hid O B H1 σ E d (re.grow e1) hm Q fun u H2 e2 r2 => q u H2 (e1.trans e2) r2
  | false =>
    rw [if_neg Bool.false_ne_true] at hm ⊢
    exact hb.si hid O B H1 σ E d (re.grow e1) hm Q fun u H2 e2 r2 => q u H2 (e1.trans e2) r2⟩

/-! ### arguments, displays -/
theorem da_nil : DA X [] mNil := ⟨_, pa_nil, fun hid O B H σ E ds re hm Q q => by
  cases hm
  exact q [] H (Ex.refl H) .nil⟩
theorem da_cons {es : List Expr} {m : En → Option (List D)} (ha : DE X a ma) (hr : DA X es m) (hs : starEach (a :: es) X.env = (false, eval a X.env) :: starEach es X.env := by rfl) : DA X (a :: es) (mCons ma m) := ⟨_, pa_cons ha.pe hr.pa hs, fun hid O B H σ E ds re hm Q q => by
  obtain ⟨x, h1, hm⟩ := bind_some hm
  obtain ⟨xs, h2, rfl⟩ := map_some hm
  refine ha.si hid O B H σ E x re h1 _ fun v H1 e1 r1 => ?_
  exact hr.si hid O B H1 σ E xs (re.grow e1) h2 _ fun vs H2 e2 r2 => q _ H2 (e1.trans e2) (.cons (r1.mono (rem_mono e2) _) r2)⟩
theorem dat_nil : DAT X [] mNil := ⟨_, pa_nil, fun hid O B H σ E ds re hm Q q => by
  cases hm
  exact q [] H (Ex.refl H) .nil⟩
theorem dat_cons {es : List Expr} {m : En → Option (List D)} (ha : DT X a ma) (hr : DAT X es m) (hs : starEach (a :: es) X.env = (false, eval a X.env) :: starEach es X.env := by rfl) : DAT X (a :: es) (mCons ma m) := ⟨_, pa_cons ha.pe hr.pa hs, fun hid O B H σ E ds re hm Q q => by
  obtain ⟨x, h1, hm⟩ := bind_some hm
  obtain ⟨xs, h2, rfl⟩ := map_some hm
  refine ha.si hid O B H σ E x re h1 _ fun v H1 e1 r1 => ?_
  exact hr.si hid O B H1 σ E xs (re.grow e1) h2 _ fun vs H2 e2 r2 => q _ H2 (e1.trans e2) (.cons (r1.full.mono e2 _) r2)⟩
theorem de_tup {es : List Expr} {x1} {pos : Pos} {m : En → Option (List D)} (h : DA X es m) : DE X (.Tuple es x1 pos) (mTup m) := ⟨_, pe_tup h.pa, fun hid O B H σ E d re hm Q q => by
  obtain ⟨ds, h1, hm⟩ := bind_some hm
  obtain ⟨h2, rfl⟩ := ite_some hm
  refine h.si hid O B H σ E ds re h1 _ fun vs H1 e1 r1 => ⟨by rw [r1.length]; exact size_le h2, fun p hp => ?_⟩
  have ex : Ex H1 (upd H1 p (.tup vs)) := Ex.new hp
  exact q _ _ (e1.trans ex) (.tup (Evl.st_of (vis_new ((re.grow e1).fresh hp) upd_same)) (r1.mono (rem_mono ex) _))⟩
theorem df_lst {es : List Expr} {pos : Pos} {m : En → Option (List D)} (h : DA X es m) : DF X (.List es pos) (mLst m) := ⟨_, pe_lst h.pa, fun hid O B H σ E ds' re hm Q q => by
  obtain ⟨ds, h1, hm⟩ := bind_some hm
  obtain ⟨h2, rfl⟩ := ite_some hm
  refine h.si hid O B H σ E ds re h1 _ fun vs H1 e1 r1 => ⟨by rw [r1.length]; exact size_le h2, fun p hp => ?_⟩
  have ex : Ex H1 (upd H1 p (.lst vs)) := Ex.new hp
  exact q p vs _ (Evl.fresh_back e1 hp) (e1.trans ex) upd_same (r1.mono (rem_new hp ex) _)⟩

/-! ### subscripts, slices -/
@[simp] def ixD : D → D → Option D
  | .lst ds, .int i => atI ds i
  | .tup ds, .int i => atI ds i
  | .scr ns, .int i => (atI ns i).map .int
  | .str z, .int i => if z.length ≤ 100000 then (atI z.cps.toList i).map fun c => .str ⟨#[c]⟩ else none
  | _, _ => none
theorem atI_rp {K : PySem.W.Frag} {H : Hp} {vs : List V} {ds : List D} {i : Int} {d : D} (h : RpL K H vs ds) (e : atI ds i = some d) : ∃ v, atI vs i = some v ∧ Rp K H v d := by
  unfold atI at e ⊢
  obtain ⟨j, h1, h2⟩ := bind_some e
  obtain ⟨v, h3, h4⟩ := h.get h2
  exact ⟨v, by rw [h.length, h1]; exact h3, h4⟩
theorem atI_map {α β : Type} (f : α → β) (xs : List α) (i : Int) : atI (xs.map f) i = (atI xs i).map f := by
  unfold atI
  rw [List.length_map]
  cases h : ixN xs.length i with
  | none => rfl
  | some j =>
    show (xs.map f)[j]? = (xs[j]?).map f
    rw [List.getElem?_map]
theorem od_ix {K : PySem.W.Frag} : OD K (rIx K) ixD := fun hid O H x y a b d al ra rb hm Q q => by
  unfold ixD at hm
  split at hm
  · obtain ⟨p, xs, rfl, h1, h2⟩ := ra.seq
    obtain ⟨v, h3, h4⟩ := atI_rp h2 hm
    exact .inl ⟨p, xs, _, v, rfl, rb.int, h1, h3, q v H (Ex.refl H) h4⟩
  · obtain ⟨p, xs, rfl, h1, h2⟩ := ra.tup
    obtain ⟨v, h3, h4⟩ := atI_rp h2 hm
    exact .inr (.inl ⟨p, xs, _, v, rfl, rb.int, Evl.ex_t rem_ex h1, h3, q v H (Ex.refl H) h4⟩)
  · obtain ⟨p, rfl, h1⟩ := ra.scr
    obtain ⟨n, h2, rfl⟩ := map_some hm
    refine .inl ⟨p, _, _, .int n, rfl, rb.int, h1, ?_, q _ H (Ex.refl H) (.int n)⟩
    rw [atI_map, h2]
    rfl
  · rename_i z i
    by_cases h1 : z.length ≤ 100000
    · rw [if_pos h1] at hm
      obtain ⟨c, h3, rfl⟩ := map_some hm
      exact .inr (.inr ⟨_, _, c, ra.str, rb.int, size_le h1, h3, q _ H (Ex.refl H) (.str _)⟩)
    · rw [if_neg h1] at hm
      cases hm
  · cases hm
theorem de_ix {pos : Pos} (ha : DT X a ma) (hb : DT X b mb) (hs : PlainIx b := by exact fun _ _ => rfl) : DE X (.Subscript a b pos) (mBin ixD ma mb) := ⟨_, pe_ix ix_seq ha.pe hb.pe hs, st_bin od_ix ha.si hb.si⟩
theorem do_none : DO X none (fun _ => some none) := ⟨_, po_none, fun hid O B H σ E o re hm Q q => by
  cases hm
  exact q H (Ex.refl H)⟩
@[simp] def inOf : D → Option (Option Int)
  | .int i => some (some i)
  | _ => none
theorem do_some (ha : DT X a ma) : DO X (some a) (fun E => (ma E).bind inOf) := ⟨_, po_some ha.pe, fun hid O B H σ E o re hm Q q => by
  obtain ⟨x, h1, hm⟩ := bind_some hm
  unfold inOf at hm
  split at hm
  · cases hm
    exact ha.si hid O B H σ E _ re h1 _ fun v H1 e1 r1 => ⟨_, r1.int, q H1 e1⟩
  · cases hm⟩
def cutD (ds : List D) (lo hi : Option Int) : List D := (ds.drop (HT.sIx ds.length 0 lo)).take (HT.sIx ds.length ds.length hi - HT.sIx ds.length 0 lo)
theorem cut_rp {K : PySem.W.Frag} {H : Hp} {vs : List V} {ds : List D} (lo hi : Option Int) (h : RpL K H vs ds) : RpL K H (cutV vs lo hi) (cutD ds lo hi) := by
  unfold cutV cutD
  rw [h.length]
  exact (h.drop _).take _
@[simp] def lstOf : D → Option (List D)
  | .lst ds => some ds
  | .scr ns => some (ns.map .int)
  | _ => none
theorem lstOf_some {d : D} {ds : List D} (h : lstOf d = some ds) : d = .lst ds ∨ ∃ ns, d = .scr ns ∧ ds = ns.map .int := by
  unfold lstOf at h
  split at h
  · cases h
    exact .inl rfl
  · cases h
    exact .inr ⟨_, rfl, rfl⟩
  · cases h
/-- a slice of a list -/
theorem df_slice {lo hi : Option Expr} {ml mh : En → Option (Option Int)} {p2 pos : Pos} (ha : DT X a ma) (hl : DO X lo ml) (hh : DO X hi mh) :
    DF X (.Subscript a (.Slice lo hi none p2) pos) (fun E => ((ma E).bind lstOf).bind fun ds => (ml E).bind fun l => (mh E).map fun h => cutD ds l h) := ⟨_, pe_slice sl_list ha.pe hl.po hh.po, fun hid O B H σ E ds re hm Q q => by
  obtain ⟨es, h1, hm⟩ := bind_some hm
  obtain ⟨x, h0, h1⟩ := bind_some h1
  obtain ⟨l, h2, hm⟩ := bind_some hm
  obtain ⟨h, h3, rfl⟩ := map_some hm
  refine ha.si hid O B H σ E x re h0 _ fun v H1 e1 r1 => ?_
  refine hl.si hid O B H1 σ E l (re.grow e1) h2 _ fun H2 e2 => ?_
  refine hh.si hid O B H2 σ E h (re.grow (e1.trans e2)) h3 _ fun H3 e3 => ?_
  have e123 := (e1.trans e2).trans e3
  have r3 := (r1.mono e2).mono e3
  rcases lstOf_some h1 with rfl | ⟨ns, rfl, rfl⟩
  · obtain ⟨p, xs, rfl, p1, p2⟩ := r3.seq
    refine ⟨p, xs, rfl, p1, fun t ht => ?_⟩
    have ex : Ex H3 (upd H3 t (.lst (cutV xs l h))) := Ex.new ht
    exact q t _ _ (Evl.fresh_back e123 ht) (e123.trans ex) upd_same ((cut_rp l h p2).mono (rem_new ht ex) _)
  · obtain ⟨p, rfl, p1⟩ := r3.scr
    refine ⟨p, _, rfl, p1, fun t ht => ?_⟩
    have ex : Ex H3 (upd H3 t (.lst (cutV (ns.map V.int) l h))) := Ex.new ht
    exact q t _ _ (Evl.fresh_back e123 ht) (e123.trans ex) upd_same ((cut_rp l h (RpL.ints _)).mono (rem_new ht ex) _)⟩
/-- xs[::-1] -/
theorem df_rev {k : Nat} {p1 p2 p3 pos : Pos} (ha : DT X a ma) : DF X (.Subscript a (.Slice none none (some (.UnaryOp .USub (.Constant (.int 1) k p1) p2)) p3) pos) (fun E => ((ma E).bind lstOf).map List.reverse) := ⟨_, pe_revL ha.pe, fun hid O B H σ E ds re hm Q q => by
  obtain ⟨es, h1, rfl⟩ := map_some hm
  obtain ⟨x, h0, h1⟩ := bind_some h1
  refine ha.si hid O B H σ E x re h0 _ fun v H1 e1 r1 => ?_
  rcases lstOf_some h1 with rfl | ⟨ns, rfl, rfl⟩
  · obtain ⟨p, xs, rfl, p1, p2⟩ := r1.seq
    refine ⟨p, xs, rfl, p1, fun t ht => ?_⟩
    have ex : Ex H1 (upd H1 t (.lst xs.reverse)) := Ex.new ht
    exact q t _ _ (Evl.fresh_back e1 ht) (e1.trans ex) upd_same (p2.rev.mono (rem_new ht ex) _)
  · obtain ⟨p, rfl, p1⟩ := r1.scr
    refine ⟨p, _, rfl, p1, fun t ht => ?_⟩
    have ex : Ex H1 (upd H1 t (.lst (ns.map V.int).reverse)) := Ex.new ht
    exact q t _ _ (Evl.fresh_back e1 ht) (e1.trans ex) upd_same ((RpL.rev (RpL.ints _)).mono (rem_new ht ex) _)⟩
end
end Sx

set_option Elab.async false
set_option linter.all false
set_option maxRecDepth 100000
set_option maxHeartbeats 1000000
namespace Sx
open PySem PySem.Spec PyProof.Rows L2
open Evl (Ex)

/-! ### more about environments -/
section
variable {K : PySem.W.Frag} {hid O : AS} {B H H' : Hp} {σ : L2.St} {E : En}
/-- a new list, owned by no slot -/
theorem RE.addO (r : RE K hid O B H σ E) {p : Addr} {xs : List V} (hp : H p = none) (e : Ex H H') (hx : H' p = some (.lst xs)) : RE K hid (orS O (· = p)) B H' σ E := by
  have sub : ∀ a, orS hid (orS O (· = p)) a → orS (orS hid O) (· = p) a := fun a z => by
    rcases z with z | z | z
    · exact .inl (.inl z)
    · exact .inl (.inr z)
    · exact .inr z
  have vis : Ex (rem (orS hid O) H) (rem (orS hid (orS O (· = p))) H') := fun a o q => rem_sub sub _ _ (rem_new (W := orS hid O) hp e a o q)
  refine ⟨fun a o q => ⟨e a o (r.base a o q).1, fun z => ?_⟩, fun a z => ?_, r.hidd, r.len, fun i d q => ?_, fun i es q => ?_, r.dis⟩
  · rcases z with z | z
    · exact (r.base a o q).2 z
    · subst z
      rw [(r.base _ o q).1] at hp
      cases hp
  · rcases z with z | z
    · exact ⟨(r.own a z).1, let ⟨ys, q⟩ := (r.own a z).2; ⟨ys, e a _ q⟩⟩
    · subst z
      exact ⟨fun w => r.fresh hp (.inl w), xs, hx⟩
  · obtain ⟨v, h1, h2⟩ := r.fz i d q
    exact ⟨v, h1, h2.mono vis d⟩
  · obtain ⟨q', ys, h1, h2, h3, h4⟩ := r.ow i es q
    exact ⟨q', ys, h1, .inl h2, e _ _ h3, h4.mono vis es⟩
theorem RE.rebase (r : RE K hid O B H σ E) : RE K hid O (rem O H) H σ E :=
  ⟨fun a o q => ⟨(rem_some.mp q).2, (rem_some.mp q).1⟩, r.own, fun a z => by
    obtain ⟨o, q⟩ := r.hidd a z
    exact ⟨o, rem_some.mpr ⟨(r.base a _ q).2, (r.base a _ q).1⟩⟩, r.len, r.fz, r.ow, r.dis⟩
theorem RE.back {B' : Hp} (r : RE K hid O B' H σ E) (e : Ex B B') (hd : ∀ a, hid a → ∃ xs, B a = some (.lst xs)) : RE K hid O B H σ E :=
  ⟨fun a o q => r.base a o (e a o q), r.own, hd, r.len, r.fz, r.ow, r.dis⟩
theorem RE.old (r : RE K hid O B H σ E) : Ex B (rem O H) := fun a o q => rem_some.mpr ⟨(r.base a o q).2, (r.base a o q).1⟩
@[simp] def wipeE (E : En) : List Nat → En
  | [] => E
  | v :: vs => (wipeE E vs).set v .un
theorem RE.wiped (r : RE K hid O B H σ E) : ∀ vs : List Nat, RE K hid O B H (wipe σ vs) (wipeE E vs)
  | [] => r
  | v :: vs => (r.wiped vs).drop v
end
theorem wipe_get (σ : L2.St) (j : Nat) : ∀ vs : List Nat, (wipe σ vs)[j]? = if j ∈ vs ∧ j < σ.length then some none else σ[j]?
  | [] => by simp [wipe]
  | v :: vs => by
    unfold wipe
    by_cases h : v = j
    · subst h
      by_cases hl : v < σ.length
      · rw [List.getElem?_set_self (by rw [wipe_length]; exact hl), if_pos ⟨List.mem_cons_self .., hl⟩]
      · rw [List.getElem?_eq_none (by rw [List.length_set, wipe_length]; omega), if_neg (fun z => hl z.2), List.getElem?_eq_none (by omega)]
    · rw [List.getElem?_set_ne h, wipe_get σ j vs]
      by_cases hj : j ∈ vs
      · by_cases hl : j < σ.length
        · rw [if_pos ⟨hj, hl⟩, if_pos ⟨List.mem_cons_of_mem _ hj, hl⟩]
        · rw [if_neg (fun z => hl z.2), if_neg (fun z => hl z.2)]
      · rw [if_neg (fun z => hj z.1), if_neg (fun z => by
          rcases List.mem_cons.mp z.1 with e | e
          · exact h e.symm
          · exact hj e)]
theorem wipe_set (σ : L2.St) {i : Nat} {x : Option V} {vs : List Nat} (h : i ∈ vs) : wipe (σ.set i x) vs = wipe σ vs := by
  refine List.ext_getElem? fun j => ?_
  rw [wipe_get, wipe_get, List.length_set]
  by_cases hj : j ∈ vs ∧ j < σ.length
  · rw [if_pos hj, if_pos hj]
  · rw [if_neg hj, if_neg hj]
    by_cases e : i = j
    · subst e
      rw [List.getElem?_eq_none (by rw [List.length_set]; exact Nat.le_of_not_lt fun z => hj ⟨h, z⟩), List.getElem?_eq_none (Nat.le_of_not_lt fun z => hj ⟨h, z⟩)]
    · rw [List.getElem?_set_ne e]

/-! ### what is walked -/
section
variable (K : PySem.W.Frag)
def Yd (W : AS) (H2 : Hp) (ds : List D) (Y : Nat → Hp → V → Hp → Prop) : Prop := ∀ (i : Nat) (H1 : Hp) (x : V) (H1' : Hp) (W' : AS) (d : D), Y i H1 x H1' → ds[i]? = some d → Ex (rem W H2) (rem W' H1) → (∀ p, H1 p = none → ¬ W' p) → Ex H1 H1' ∧ Rp K (rem W' H1') x d
def SI (wi : TI) (m : En → Option (List D)) : Prop := ∀ (hid O : AS) (B H : Hp) (σ : L2.St) (E : En) (ds : List D), RE K hid O B H σ E → m E = some ds → ∀ R : It → Hp → Prop,
  (∀ J H2 G Y, Ex H H2 → Walk J ds.length G Y → (∀ H', Ex (rem (orS hid O) H2) H' → G H') → Yd K (orS hid O) H2 ds Y → R J H2) → wi σ H R
def SIT (wi : TI) (m : En → Option (List D)) : Prop := ∀ (hid O : AS) (B H : Hp) (σ : L2.St) (E : En) (ds : List D), RE K hid O B H σ E → m E = some ds → ∀ R : It → Hp → Prop,
  (∀ J H2 G Y, Ex H H2 → Walk J ds.length G Y → (∀ H', Ex H2 H' → G H') → Yd K (orS hid O) H2 ds Y → R J H2) → wi σ H R
end
section
variable (K : PySem.W.Frag)
def tIq (m : En → Option (List D)) : TI := fun σ H R => ∃ (hid O : AS) (B : Hp) (E : En) (ds : List D), RE K hid O B H σ E ∧ m E = some ds ∧
  ∀ J H2 G Y, Ex H H2 → Walk J ds.length G Y → (∀ H', Ex (rem (orS hid O) H2) H' → G H') → Yd K (orS hid O) H2 ds Y → R J H2
def tITq (m : En → Option (List D)) : TI := fun σ H R => ∃ (hid O : AS) (B : Hp) (E : En) (ds : List D), RE K hid O B H σ E ∧ m E = some ds ∧
  ∀ J H2 G Y, Ex H H2 → Walk J ds.length G Y → (∀ H', Ex H2 H' → G H') → Yd K (orS hid O) H2 ds Y → R J H2
end
def DI (X : Cx) (tg e : Expr) (m : En → Option (List D)) : Prop := ∃ wi, PI X tg e wi ∧ SI X.K wi m
def DIT (X : Cx) (tg e : Expr) (m : En → Option (List D)) : Prop := ∃ wi, PI X tg e wi ∧ SIT X.K wi m
theorem DI.pi {X : Cx} {tg e : Expr} {m : En → Option (List D)} (h : DI X tg e m) : PI X tg e (tIq X.K m) := by
  obtain ⟨te, p, s⟩ := h
  exact ⟨fun pins s0 σ H Q I h => p.run pins s0 σ H Q I (by obtain ⟨hid, O, B, E, d, r, hm, q⟩ := h; exact s hid O B H σ E d r hm Q q)⟩
theorem DI.si {X : Cx} {tg e : Expr} {m : En → Option (List D)} (h : DI X tg e m) : SI X.K (tIq X.K m) m := fun hid O B H σ E d r hm Q q => ⟨hid, O, B, E, d, r, hm, q⟩
theorem DIT.pi {X : Cx} {tg e : Expr} {m : En → Option (List D)} (h : DIT X tg e m) : PI X tg e (tITq X.K m) := by
  obtain ⟨te, p, s⟩ := h
  exact ⟨fun pins s0 σ H Q I h => p.run pins s0 σ H Q I (by obtain ⟨hid, O, B, E, d, r, hm, q⟩ := h; exact s hid O B H σ E d r hm Q q)⟩
theorem DIT.si {X : Cx} {tg e : Expr} {m : En → Option (List D)} (h : DIT X tg e m) : SIT X.K (tITq X.K m) m := fun hid O B H σ E d r hm Q q => ⟨hid, O, B, E, d, r, hm, q⟩
theorem Yd.at {K : PySem.W.Frag} {W : AS} {H2 : Hp} {xs : List V} {ds : List D} (h : RpL K (rem W H2) xs ds) : Yd K W H2 ds (YAt xs) := fun i H1 x H1' W' d y hd e _ => by
  obtain ⟨rfl, hx⟩ := y
  obtain ⟨v, h1, h2⟩ := h.get hd
  rw [hx] at h1
  cases h1
  exact ⟨Ex.refl _, h2.mono e d⟩
def rangeD (lo : Int) (n : Nat) : List D := (List.range n).map fun (i : Nat) => D.int (lo + (i : Int))
theorem rangeD_len (lo : Int) (n : Nat) : (rangeD lo n).length = n := by
  unfold rangeD
  rw [List.length_map, List.length_range]
theorem rangeD_get {lo : Int} {n i : Nat} (h : i < n) : (rangeD lo n)[i]? = some (.int (lo + i)) := by
  unfold rangeD
  rw [List.getElem?_map, List.getElem?_range h]
  rfl
theorem Yd.fn {K : PySem.W.Frag} {W : AS} {H2 : Hp} {lo : Int} {n : Nat} : Yd K W H2 (rangeD lo n) (YFn fun i => .int (lo + i)) := fun i H1 x H1' W' d y hd e _ => by
  obtain ⟨rfl, rfl⟩ := y
  have hi : i < n := by
    have := (List.getElem?_eq_some_iff.mp hd).1
    rwa [rangeD_len] at this
  rw [rangeD_get hi] at hd
  cases hd
  exact ⟨Ex.refl _, .int _⟩
section
variable {X : Cx} {tg e : Expr} {te : TE} {m : En → Option D}
theorem DI.t {m : En → Option (List D)} (h : DI X tg e m) : DIT X tg e m := ⟨_, h.pi, fun hid O B H σ E ds r hm R k => h.si hid O B H σ E ds r hm R fun J H2 G Y e w g y => k J H2 G Y e w (fun H' z => g H' (Ex.trans rem_ex z)) y⟩
/-- a list -/
theorem di_list (h : DE X e m) : DI X tg e (fun E => (m E).bind lstOf) := ⟨_, pi_list h.pe, fun hid O B H σ E ds r hm R k => by
  obtain ⟨x, h1, hm⟩ := bind_some hm
  refine h.si hid O B H σ E x r h1 _ fun v H1 e1 r1 => ?_
  rcases lstOf_some hm with rfl | ⟨ns, rfl, rfl⟩
  · cases r1 with
    | @lst a xs _ g1 g2 =>
      refine ⟨a, rfl, ⟨xs, .inl (.inl (rem_some.mp g1).2)⟩, ?_⟩
      have w := walk_list (K := X.K) (a := a) (xs := xs)
      rw [g2.length] at w
      exact k _ H1 _ _ e1 w (fun H' z => .inl (.inl (z a _ g1))) (Yd.at g2)
  · cases r1 with
    | @scr a _ g1 =>
      refine ⟨a, rfl, ⟨_, Evl.ex_l rem_ex g1⟩, ?_⟩
      have w := walk_list (K := X.K) (a := a) (xs := ns.map V.int)
      rw [List.length_map, ← List.length_map (f := D.int)] at w
      exact k _ H1 _ _ e1 w (fun H' z => Evl.ex_l z g1) (Yd.at (RpL.ints ns))⟩
theorem dit_list (h : DT X e m) : DIT X tg e (fun E => (m E).bind lstOf) := ⟨_, pi_list h.pe, fun hid O B H σ E ds r hm R k => by
  obtain ⟨x, h1, hm⟩ := bind_some hm
  refine h.si hid O B H σ E x r h1 _ fun v H1 e1 r1 => ?_
  rcases lstOf_some hm with rfl | ⟨ns, rfl, rfl⟩
  · obtain ⟨a, xs, rfl, g1, g2⟩ := r1.lst
    refine ⟨a, rfl, ⟨xs, .inl (.inl g1)⟩, ?_⟩
    have w := walk_list (K := X.K) (a := a) (xs := xs)
    rw [g2.length] at w
    exact k _ H1 _ _ e1 w (fun H' z => .inl (.inl (z a _ g1))) (Yd.at g2)
  · obtain ⟨a, rfl, g1⟩ := r1.scr
    refine ⟨a, rfl, ⟨_, g1⟩, ?_⟩
    have w := walk_list (K := X.K) (a := a) (xs := ns.map V.int)
    rw [List.length_map, ← List.length_map (f := D.int)] at w
    exact k _ H1 _ _ e1 w (fun H' z => Evl.ex_l z g1) (Yd.at (RpL.ints ns))⟩
@[simp] def tupOf : D → Option (List D)
  | .tup ds => some ds
  | _ => none
/-- a tuple -/
theorem di_tup (h : DE X e m) : DI X tg e (fun E => (m E).bind tupOf) := ⟨_, pi_tup h.pe, fun hid O B H σ E ds r hm R k => by
  obtain ⟨x, h1, hm⟩ := bind_some hm
  refine h.si hid O B H σ E x r h1 _ fun v H1 e1 r1 => ?_
  unfold tupOf at hm
  split at hm
  · cases hm
    cases r1 with
    | @tup a xs _ g1 g2 =>
      refine ⟨a, rfl, ⟨xs, Evl.ex_t rem_ex g1⟩, ?_⟩
      have w := walk_tup (K := X.K) (a := a) (xs := xs)
      rw [g2.length] at w
      exact k _ H1 _ _ e1 w (fun H' z => Evl.ex_t z g1) (Yd.at g2)
  · cases hm⟩
@[simp] def rg1 : D → Option (List D)
  | .int n => if n ≤ 100000 ∧ -100000 ≤ n then some (rangeD 0 n.toNat) else none
  | _ => none
theorem rg1_some {d : D} {ds : List D} (h : rg1 d = some ds) : ∃ n : Int, d = .int n ∧ n ≤ 100000 ∧ -100000 ≤ n ∧ ds = rangeD 0 n.toNat := by
  unfold rg1 at h
  split at h
  · obtain ⟨h1, h2⟩ := ite_some h
    exact ⟨_, rfl, h1.1, h1.2, h2.symm⟩
  · cases h
@[simp] def rg2 : D → D → Option (List D)
  | .int a, .int n => if (n ≤ 100000 ∧ -100000 ≤ n) ∧ (a ≤ 100000 ∧ -100000 ≤ a) then some (rangeD a (n - a).toNat) else none
  | _, _ => none
theorem rg2_some {c d : D} {ds : List D} (h : rg2 c d = some ds) : ∃ a n : Int, c = .int a ∧ d = .int n ∧ (n ≤ 100000 ∧ -100000 ≤ n) ∧ (a ≤ 100000 ∧ -100000 ≤ a) ∧ ds = rangeD a (n - a).toNat := by
  unfold rg2 at h
  split at h
  · obtain ⟨h1, h2⟩ := ite_some h
    exact ⟨_, _, rfl, rfl, h1.1, h1.2, h2.symm⟩
  · cases h
theorem di_range1 {a : Expr} {ma : En → Option D} {p pos : Pos} (hm : X.mg "range" = none) (ha : DT X a ma) (hg : Gl X "range" := by rfl) (hs : starEach [a] X.env = [(false, eval a X.env)] := by rfl) (hs1 : starEach [a] X.env = (false, eval a X.env) :: starEach [] X.env := by rfl) :
    DI X tg (.Call (.Name "range" p) [a] [] pos) (fun E => (ma E).bind rg1) := ⟨_, pi_range1 hg hm (pa_cons ha.pe pa_nil hs1) hs, fun hid O B H σ E ds r hm R k => by
  obtain ⟨x, h1, hm⟩ := bind_some hm
  obtain ⟨n, rfl, b1, b2, rfl⟩ := rg1_some hm
  refine ha.si hid O B H σ E _ r h1 _ fun v H1 e1 r1 => ?_
  obtain rfl := r1.int
  refine ⟨n, rfl, by omega, by omega, ?_⟩
  have w := walk_range (lo := 0) (n := n.toNat)
  rw [← rangeD_len 0 n.toNat] at w
  rw [rangeD_len] at w
  exact k _ H1 _ _ e1 (by rw [rangeD_len]; exact w) (fun _ _ => trivial) Yd.fn⟩
theorem di_range2 {a b : Expr} {ma mb : En → Option D} {p pos : Pos} (hm : X.mg "range" = none) (ha : DT X a ma) (hb : DT X b mb) (hg : Gl X "range" := by rfl) (hs : starEach [a, b] X.env = [(false, eval a X.env), (false, eval b X.env)] := by rfl) (hs2 : starEach [b] X.env = [(false, eval b X.env)] := by rfl)
    (hs1 : starEach [a, b] X.env = (false, eval a X.env) :: starEach [b] X.env := by rfl) (hs3 : starEach [b] X.env = (false, eval b X.env) :: starEach [] X.env := by rfl) :
    DI X tg (.Call (.Name "range" p) [a, b] [] pos) (fun E => (ma E).bind fun x => (mb E).bind fun y => rg2 x y) := ⟨_, pi_range2 hg hm (pa_cons ha.pe (pa_cons hb.pe pa_nil hs3) hs1) hs hs2, fun hid O B H σ E ds r hm R k => by
  obtain ⟨x, h1, hm⟩ := bind_some hm
  obtain ⟨y, h2, hm⟩ := bind_some hm
  obtain ⟨a, n, rfl, rfl, b1, b2, rfl⟩ := rg2_some hm
  refine ha.si hid O B H σ E _ r h1 _ fun v H1 e1 r1 => ?_
  obtain rfl := r1.int
  refine hb.si hid O B H1 σ E _ (r.grow e1) h2 _ fun v H2 e2 r2 => ?_
  obtain rfl := r2.int
  refine ⟨a, n, rfl, by omega, ?_⟩
  exact k _ H2 _ _ (e1.trans e2) (by rw [rangeD_len]; exact walk_range) (fun _ _ => trivial) Yd.fn⟩
end

/-! ### targets -/
section
variable (K : PySem.W.Frag)
def SG (g : TG) (js : List Nat) (m : En → D → Option En) : Prop := ∀ (hid O : AS) (B H : Hp) (σ : L2.St) (E : En) (v : V) (d : D) (E' : En), RE K hid O B H σ E → Rp K (rem (orS hid O) H) v d → m E d = some E' → ∀ Q : L2.St → Hp → Prop,
  (∀ σ', RE K hid O B H σ' E' → (∀ vs : List Nat, (∀ j ∈ js, j ∈ vs) → wipe σ' vs = wipe σ vs) → Q σ' H) → g v σ H Q
def SGs (g : TGs) (js : List Nat) (m : En → List D → Option En) : Prop := ∀ (hid O : AS) (B H : Hp) (σ : L2.St) (E : En) (v : List V) (d : List D) (E' : En), RE K hid O B H σ E → RpL K (rem (orS hid O) H) v d → m E d = some E' → ∀ Q : L2.St → Hp → Prop,
  (∀ σ', RE K hid O B H σ' E' → (∀ vs : List Nat, (∀ j ∈ js, j ∈ vs) → wipe σ' vs = wipe σ vs) → Q σ' H) → g v σ H Q
end
section
variable (K : PySem.W.Frag)
def tGq (js : List Nat) (m : En → D → Option En) : TG := fun v σ H Q => ∃ (hid O : AS) (B : Hp) (E : En) (d : D) (E' : En), RE K hid O B H σ E ∧ Rp K (rem (orS hid O) H) v d ∧ m E d = some E' ∧
  ∀ σ', RE K hid O B H σ' E' → (∀ vs : List Nat, (∀ j ∈ js, j ∈ vs) → wipe σ' vs = wipe σ vs) → Q σ' H
def tGsq (js : List Nat) (m : En → List D → Option En) : TGs := fun v σ H Q => ∃ (hid O : AS) (B : Hp) (E : En) (d : List D) (E' : En), RE K hid O B H σ E ∧ RpL K (rem (orS hid O) H) v d ∧ m E d = some E' ∧
  ∀ σ', RE K hid O B H σ' E' → (∀ vs : List Nat, (∀ j ∈ js, j ∈ vs) → wipe σ' vs = wipe σ vs) → Q σ' H
end
def DG (X : Cx) (tg : Expr) (js : List Nat) (m : En → D → Option En) : Prop := ∃ g, PG X tg g ∧ SG X.K g js m
def DGs (X : Cx) (tg : List Expr) (js : List Nat) (m : En → List D → Option En) : Prop := ∃ g, PGs X tg g ∧ SGs X.K g js m
theorem DG.pg {X : Cx} {tg : Expr} {js : List Nat} {m : En → D → Option En} (h : DG X tg js m) : PG X tg (tGq X.K js m) := by
  obtain ⟨te, p, s⟩ := h
  exact ⟨fun pins s0 σ H v u Q I rv h => p.run pins s0 σ H v u Q I rv (by obtain ⟨hid, O, B, E, d, E', r, r2, hm, q⟩ := h; exact s hid O B H σ E v d E' r r2 hm Q q)⟩
theorem DG.si {X : Cx} {tg : Expr} {js : List Nat} {m : En → D → Option En} (h : DG X tg js m) : SG X.K (tGq X.K js m) js m := fun hid O B H σ E v d E' r r2 hm Q q => ⟨hid, O, B, E, d, E', r, r2, hm, q⟩
theorem DGs.pg {X : Cx} {tg : List Expr} {js : List Nat} {m : En → List D → Option En} (h : DGs X tg js m) : PGs X tg (tGsq X.K js m) := by
  obtain ⟨te, p, s⟩ := h
  exact ⟨fun pins s0 σ H v u Q I rv h => p.run pins s0 σ H v u Q I rv (by obtain ⟨hid, O, B, E, d, E', r, r2, hm, q⟩ := h; exact s hid O B H σ E v d E' r r2 hm Q q)⟩
theorem DGs.si {X : Cx} {tg : List Expr} {js : List Nat} {m : En → List D → Option En} (h : DGs X tg js m) : SGs X.K (tGsq X.K js m) js m := fun hid O B H σ E v d E' r r2 hm Q q => ⟨hid, O, B, E, d, E', r, r2, hm, q⟩
@[simp] def gM (i : Nat) : En → D → Option En := fun E d => some (E.set i (.fz d))
@[simp] def gsNil : En → List D → Option En := fun E ds => match ds with
  | [] => some E
  | _ => none
@[simp] def gsCons (g : En → D → Option En) (h : En → List D → Option En) : En → List D → Option En := fun E ds => match ds with
  | d :: ds => (g E d).bind fun E1 => h E1 ds
  | [] => none
@[simp] def gTupM (n : Nat) (g : En → List D → Option En) : En → D → Option En := fun E d => match d with
  | .tup ds => if ds.length = n then g E ds else none
  | _ => none
section
variable {X : Cx} {pos : Pos}
theorem dg_name (i : Nat) {x : Str} (hN : X.N.Nodup) (hi : X.N[i]? = some x := by rfl) (hx : Loc X.env.scope x := by first | exact Or.inl rfl | exact Or.inr rfl) (hf : X.fn x = true ∨ X.env.scope.names.lookup x = some .local := by first | exact .inl rfl | exact .inr rfl) : DG X (.Name x pos) [i] (gM i) :=
  ⟨_, pg_name hN hi hx hf, fun hid O B H σ E v d E' r rv hm Q k => by
    cases hm
    exact k _ (r.put i rv) fun vs h => wipe_set σ (h i (List.mem_cons_self ..))⟩
theorem dgs_nil : DGs X [] [] gsNil := ⟨_, pgs_nil, fun hid O B H σ E v d E' r rv hm Q k => by
  unfold gsNil at hm
  split at hm
  · cases hm
    cases rv
    exact ⟨rfl, k σ r fun _ _ => rfl⟩
  · cases hm⟩
theorem dgs_cons {t : Expr} {ts : List Expr} {js ks : List Nat} {mg : En → D → Option En} {mh : En → List D → Option En} (h1 : DG X t js mg) (h2 : DGs X ts ks mh)
    (hs : (assignEach (t :: ts) X.env).map (·.2) = assign t X.env :: (assignEach ts X.env).map (·.2) := by rfl) : DGs X (t :: ts) (js ++ ks) (gsCons mg mh) := ⟨_, pgs_cons h1.pg h2.pg hs, fun hid O B H σ E v d E' r rv hm Q k => by
  unfold gsCons at hm
  split at hm
  · cases rv with
    | cons a b =>
      obtain ⟨E1, q1, q2⟩ := bind_some hm
      refine ⟨_, _, rfl, h1.si hid O B H σ E _ _ E1 r a q1 _ fun σ1 r1 w1 => ?_⟩
      exact h2.si hid O B H σ1 E1 _ _ E' r1 b q2 _ fun σ2 r2 w2 => k σ2 r2 fun vs hv => (w2 vs fun j hj => hv j (List.mem_append_right _ hj)).trans (w1 vs fun j hj => hv j (List.mem_append_left _ hj))
  · cases hm⟩
theorem dg_tup {es : List Expr} {k : Nat} {js : List Nat} {m : En → List D → Option En} {n : Nat} (hc : X.calm = true) (h : DGs X es js m)
    (hn : (assignEach es X.env).length = n := by rfl) (hst : (assignEach es X.env).findIdx? (·.1) = none := by rfl) : DG X (.Tuple es k pos) js (gTupM n m) := ⟨_, pg_tup hc h.pg hn hst, fun hid O B H σ E v d E' r rv hm Q k => by
  unfold gTupM at hm
  split at hm
  · by_cases hl : List.length ‹List D› = n
    · rw [if_pos hl] at hm
      cases rv with
      | tup h1 h2 => exact ⟨_, _, rfl, Evl.ex_t rem_ex h1, by rw [h2.length]; exact hl, h.si hid O B H σ E _ _ E' r h2 hm Q k⟩
    · rw [if_neg hl] at hm
      cases hm
  · cases hm⟩
end

/-! ### comprehensions -/
def runComp (mg : En → D → Option En) (mt : En → Option Bool) (me : En → Option D) (E0 : En) : List D → Option (List D)
  | [] => some []
  | d :: ds => (mg E0 d).bind fun E1 => (mt E1).bind fun b => if b = true then (me E1).bind fun r => (runComp mg mt me E0 ds).map (r :: ·) else runComp mg mt me E0 ds
@[simp] def mComp (vs : List Nat) (mi : En → Option (List D)) (mg : En → D → Option En) (mt : En → Option Bool) (me : En → Option D) : En → Option (List D) :=
  fun E => (mi E).bind fun ds => if ds.length ≤ 100000 then runComp mg mt me (wipeE E vs) ds else none
@[simp] def mYes : En → Option Bool := fun _ => some true
def DTs (X : Cx) (ifs : List Expr) (m : En → Option Bool) : Prop := ∃ tt, PTs X ifs tt ∧ SB X.K tt m
theorem DTs.pt {X : Cx} {ifs : List Expr} {m : En → Option Bool} (h : DTs X ifs m) : PTs X ifs (tBq X.K m) := by
  obtain ⟨te, p, s⟩ := h
  exact ⟨fun pins s0 σ H Q I h => p.run pins s0 σ H Q I (by obtain ⟨hid, O, B, E, d, r, hm, q⟩ := h; exact s hid O B H σ E d r hm Q q)⟩
theorem DTs.si {X : Cx} {ifs : List Expr} {m : En → Option Bool} (h : DTs X ifs m) : SB X.K (tBq X.K m) m := fun hid O B H σ E d r hm Q q => ⟨hid, O, B, E, d, r, hm, q⟩
section
variable {X : Cx}
theorem dts_nil : DTs X [] mYes := ⟨_, pts_nil, fun hid O B H σ E b r hm Q q => by
  cases hm
  exact q H (Ex.refl H)⟩
theorem dts_one {c : Expr} {m : En → Option Bool} (h : DB X c m) : DTs X [c] m := ⟨_, pts_one h.pt, h.si⟩
theorem sf_lc {K : PySem.W.Frag} {wi : TI} {g : TG} {tt : TT} {te : TE} {vs js : List Nat} {mi : En → Option (List D)} {mg : En → D → Option En} {mt : En → Option Bool} {me : En → Option D}
    (hi : SIT K wi mi) (hg : SG K g js mg) (hjs : ∀ j ∈ js, j ∈ vs) (ht : SB K tt mt) (he : SE K te me) : SF K (tLc wi g tt te vs) (mComp vs mi mg mt me) := fun hid O B H σ E out r hm Q q => by
  obtain ⟨ds, h1, hm⟩ := bind_some hm
  have hz : ds.length ≤ 100000 ∧ runComp mg mt me (wipeE E vs) ds = some out := by
    by_cases hz : ds.length ≤ 100000
    · rw [if_pos hz] at hm
      exact ⟨hz, hm⟩
    · rw [if_neg hz] at hm
      cases hm
  obtain ⟨hz, hm⟩ := hz
  refine hi hid O B H σ E ds r h1 _ fun J H2 G Y e2 w hG hY Dl hD => ?_
  have r2 := r.grow e2
  have assoc1 : ∀ a, orS (orS hid O) (· = Dl) a → orS hid (orS O (· = Dl)) a := fun a z => by
    rcases z with (z | z) | z
    · exact .inl z
    · exact .inr (.inl z)
    · exact .inr (.inr z)
  have assoc2 : ∀ a, orS hid (orS O (· = Dl)) a → orS (orS hid O) (· = Dl) a := fun a z => by
    rcases z with z | z | z
    · exact .inl (.inl z)
    · exact .inl (.inr z)
    · exact .inr z
  refine lc_it w (fun i H' => Ex H2 H' ∧ ∃ xs rs rest, H' Dl = some (.lst xs) ∧ RpL K (rem (orS hid (orS O (· = Dl))) H') xs rs ∧ runComp mg mt me (wipeE E vs) (ds.drop i) = some rest ∧ rs ++ rest = out ∧ xs.length ≤ i)
    ⟨Ex.new hD, [], [], out, upd_same, .nil, hm, rfl, Nat.zero_le _⟩ (fun i H' _ p => hG H' p.1) (fun i x H3 H3' hi p y => ?_) (fun H' p => ?_)
  · obtain ⟨e3, xs, rs, rest, g1, g2, g3, g4, g5⟩ := p
    have hdi : ds.drop i = ds[i] :: ds.drop (i + 1) := (List.drop_eq_getElem_cons hi)
    rw [hdi] at g3
    obtain ⟨E1, k1, g3⟩ := bind_some g3
    obtain ⟨b, k2, g3⟩ := bind_some g3
    have rA : RE K hid (orS O (· = Dl)) B H3 σ E := r2.addO hD e3 g1
    have exv : Ex (rem (orS hid O) H2) (rem (orS hid (orS O (· = Dl))) H3) := fun a o z => rem_sub assoc2 _ _ (rem_new hD e3 a o z)
    obtain ⟨e4, rx⟩ := hY i H3 x H3' (orS hid (orS O (· = Dl))) ds[i] y (List.getElem?_eq_getElem hi) exv (fun p hp => rA.fresh hp)
    have rW := (rA.grow e4).wiped vs
    refine hg hid _ B H3' _ _ x ds[i] E1 rW rx k1 _ fun σ2 r3 w3 => ⟨?_, ?_⟩
    · have := w3 vs hjs
      rw [this]
      refine List.ext_getElem? fun j => ?_
      rw [wipe_get, wipe_get, wipe_length]
      by_cases hj : j ∈ vs ∧ j < σ.length
      · rw [if_pos hj, if_pos hj]
      · rw [if_neg hj, if_neg hj]
    · refine ht hid _ B H3' σ2 E1 b r3 k2 _ fun H5 e5 => ?_
      cases b with
      | true =>
        rw [if_pos rfl] at g3 ⊢
        obtain ⟨d, k3, g3⟩ := bind_some g3
        obtain ⟨rest', k4, rfl⟩ := map_some g3
        refine he hid _ B H5 σ2 E1 d (r3.grow e5) k3 _ fun v H6 e6 rv => ?_
        have e36 := (e4.trans e5).trans e6
        refine ⟨xs, e36 Dl _ g1, by have : xs.length < 100000 := by omega
                                    exact size_lt this, Evl.Ex.mut (e3.trans e36) hD, xs ++ [v], rs ++ [d], rest', upd_same, ?_, k4, by rw [List.append_assoc]; exact g4, by rw [List.length_append]; simp only [List.length_singleton]; omega⟩
        exact (((g2.mono (rem_mono e36) _).app (.one rv)).mono (rem_upd (.inr (.inr rfl))) _)
      | false =>
        rw [if_neg Bool.false_ne_true] at g3 ⊢
        have e35 := e4.trans e5
        exact ⟨e3.trans e35, xs, rs, rest, e35 Dl _ g1, g2.mono (rem_mono e35) _, g3, g4, by omega⟩
  · obtain ⟨e3, xs, rs, rest, g1, g2, g3, g4, g5⟩ := p
    rw [List.drop_length] at g3
    cases g3
    rw [List.append_nil] at g4
    subst g4
    exact q Dl xs H' (Evl.fresh_back e2 hD) (e2.trans e3) g1 (g2.mono (rem_sub assoc1) _)
theorem df_lc {elt tg iter : Expr} {ifs : List Expr} {scope : Scope} {own : List (Str × Nat)} {pos : Pos} {js : List Nat} {mi : En → Option (List D)} {mg : En → D → Option En} {mt : En → Option Bool} {me : En → Option D}
    (hc : X.calm = true) (hN : X.N.Nodup) (hi : DIT X tg iter mi) (ok : BlkOk X.N X.env.scope scope own) (hjs : ∀ j ∈ js, j ∈ own.map (·.2))
    (hg : ∀ (s : Shared) (H : Hp) (C : Addr) (cl : List (Str × Addr)) (fp : List Addr), DG (X.blk s H scope (compEnvC scope cl C X.env) fp) tg js mg) (ht : ∀ (s : Shared) (H : Hp) (C : Addr) (cl : List (Str × Addr)) (fp : List Addr), DTs (X.blk s H scope (compEnvC scope cl C X.env) fp) ifs mt)
    (he : ∀ (s : Shared) (H : Hp) (C : Addr) (cl : List (Str × Addr)) (fp : List Addr), DE (X.blk s H scope (compEnvC scope cl C X.env) fp) elt me) (hs : ∀ x, foldedSetIterable iter X.env x = pure x := by intro _; rfl) :
    DF X (.ListComp elt [⟨tg, iter, ifs, 0⟩] scope pos) (mComp (own.map (·.2)) mi mg mt me) :=
  ⟨_, pe_lc hc hN hi.pi ok (fun s H C cl fp => (hg s H C cl fp).pg) (fun s H C cl fp => (ht s H C cl fp).pt) (fun s H C cl fp => (he s H C cl fp).pe) hs,
    sf_lc hi.si (hg X.s_0 X.H_0 0 [] []).si hjs (ht X.s_0 X.H_0 0 [] []).si (he X.s_0 X.H_0 0 [] []).si⟩
end

/-! ### statements -/
inductive Out where
  | nx (E : En) | rt (d : D) | bk (E : En) | ct (E : En) | rf (ds : List D)
def End (K : PySem.W.Frag) (hid : AS) (B : Hp) (Dn : Ends) : Out → Prop
  | .nx E => ∀ O σ H, RE K hid O B H σ E → Dn.nx σ H
  | .rt d => ∀ v H, Ex B H → Rp K (rem hid H) v d → Dn.rt v H
  | .bk E => ∀ O σ H, RE K hid O B H σ E → Dn.bk σ H
  | .ct E => ∀ O σ H, RE K hid O B H σ E → Dn.ct σ H
  | .rf ds => ∀ p xs H, B p = none → Ex B H → H p = some (.lst xs) → RpL K (rem (orS hid (· = p)) H) xs ds → Dn.rt (.ref p) H
def SS (K : PySem.W.Frag) (t : TS) (m : En → Option Out) : Prop := ∀ (hid O : AS) (B H : Hp) (σ : L2.St) (E : En) (o : Out) (Dn : Ends), RE K hid O B H σ E → m E = some o → End K hid B Dn o → t Dn σ H
def tSq (K : PySem.W.Frag) (m : En → Option Out) : TS := fun Dn σ H => ∃ (hid O : AS) (B : Hp) (E : En) (o : Out), RE K hid O B H σ E ∧ m E = some o ∧ End K hid B Dn o
def DS (X : Cx) (st : Stmt) (m : En → Option Out) : Prop := ∃ t, PS X st t ∧ SS X.K t m
def DSs (X : Cx) (sts : List Stmt) (m : En → Option Out) : Prop := ∃ t, PSs X sts t ∧ SS X.K t m
theorem DS.ps {X : Cx} {st : Stmt} {m : En → Option Out} (h : DS X st m) : PS X st (tSq X.K m) := by
  obtain ⟨te, p, s⟩ := h
  exact ⟨fun pins s0 σ H Q I h => p.run pins s0 σ H Q I (by obtain ⟨hid, O, B, E, d, r, hm, q⟩ := h; exact s hid O B H σ E d Q r hm q)⟩
theorem DS.si {X : Cx} {st : Stmt} {m : En → Option Out} (h : DS X st m) : SS X.K (tSq X.K m) m := fun hid O B H σ E d Q r hm q => ⟨hid, O, B, E, d, r, hm, q⟩
theorem DSs.ps {X : Cx} {st : List Stmt} {m : En → Option Out} (h : DSs X st m) : PSs X st (tSq X.K m) := by
  obtain ⟨te, p, s⟩ := h
  exact ⟨fun pins s0 σ H Q I h => p.run pins s0 σ H Q I (by obtain ⟨hid, O, B, E, d, r, hm, q⟩ := h; exact s hid O B H σ E d Q r hm q)⟩
theorem DSs.si {X : Cx} {st : List Stmt} {m : En → Option Out} (h : DSs X st m) : SS X.K (tSq X.K m) m := fun hid O B H σ E d Q r hm q => ⟨hid, O, B, E, d, r, hm, q⟩
@[simp] def mNext : En → Option Out := fun E => some (.nx E)
@[simp] def mSeq (a b : En → Option Out) : En → Option Out := fun E => (a E).bind fun o => match o with
  | .nx E1 => b E1
  | o => some o
section
variable {X : Cx} {pos : Pos} {st : Stmt} {rest : List Stmt} {t u : TS} {m n : En → Option Out}
theorem dss_nil : DSs X [] mNext := ⟨_, pss_nil, fun hid O B H σ E o Dn r hm k => by
  cases hm
  exact k O σ H r⟩
theorem dss_cons (h1 : DS X st m) (h2 : DSs X rest n) : DSs X (st :: rest) (mSeq m n) := ⟨_, pss_cons h1.ps h2.ps, fun hid O B H σ E o Dn r hm k => by
  obtain ⟨o1, e1, hm⟩ := bind_some hm
  refine h1.si hid O B H σ E o1 _ r e1 ?_
  cases o1 with
  | nx E1 => exact fun O' σ' H' r' => h2.si hid O' B H' σ' E1 o Dn r' hm k
  | rt d => cases hm; exact k
  | bk E1 => cases hm; exact k
  | rf E1 => cases hm; exact k
  | ct E1 => cases hm; exact k⟩
theorem dss_one (h1 : DS X st m) : DSs X [st] m := ⟨_, pss_one h1.ps, h1.si⟩
/-- an owned list is let go -/
@[simp] def frzE (i : Nat) (E : En) : En := match E[i]? with
  | some (.ow ds) => E.set i (.fz (.lst ds))
  | _ => E
theorem RE.frzE {K : PySem.W.Frag} {hid O : AS} {B H : Hp} {σ : L2.St} {E : En} (r : RE K hid O B H σ E) (i : Nat) : ∃ O', RE K hid O' B H σ (frzE i E) := by
  unfold Sx.frzE
  split
  · rename_i ds h
    obtain ⟨O', r', _⟩ := r.frz h
    exact ⟨O', r'⟩
  · exact ⟨O, r⟩
@[simp] def mFrz (i : Nat) (m : En → Option Out) : En → Option Out := fun E => m (frzE i E)
theorem ds_frz (i : Nat) (h : DS X st m) : DS X st (mFrz i m) := ⟨_, h.ps, fun hid O B H σ E o Dn r hm k => by
  obtain ⟨O', r'⟩ := r.frzE i
  exact h.si hid O' B H σ _ o Dn r' hm k⟩
theorem ds_pass : DS X (.Pass pos) mNext := ⟨_, ps_pass, fun hid O B H σ E o Dn r hm k => by
  cases hm
  exact k O σ H r⟩
theorem ds_break : DS X (.Break pos) (fun E => some (.bk E)) := ⟨_, ps_break, fun hid O B H σ E o Dn r hm k => by
  cases hm
  exact k O σ H r⟩
theorem ds_continue : DS X (.Continue pos) (fun E => some (.ct E)) := ⟨_, ps_continue, fun hid O B H σ E o Dn r hm k => by
  cases hm
  exact k O σ H r⟩
@[simp] def mRet (m : En → Option D) : En → Option Out := fun E => (m E).map .rt
theorem ds_ret {e : Expr} {m : En → Option D} (h : DT X e m) : DS X (.Return (some e) pos) (mRet m) := ⟨_, ps_ret h.pe, fun hid O B H σ E o Dn r hm k => by
  obtain ⟨d, h1, rfl⟩ := map_some hm
  refine h.si hid O B H σ E d r h1 _ fun v H1 e1 r1 => k v H1 ((r.grow e1).ex) ?_
  rcases r1 with r1 | ⟨p, xs, ds, rfl, rfl, h3, h4, h5⟩
  · exact r1.mono (rem_sub fun a z => .inl z) d
  · exact .lst (rem_some.mpr ⟨(r.own p h3).1, h4⟩) (h5.mono (rem_sub fun a z => .inl z) ds)⟩
/-- a new list is handed back; an owned one -/
@[simp] def mRetF (m : En → Option (List D)) : En → Option Out := fun E => (m E).map .rf
theorem ds_retF {e : Expr} {m : En → Option (List D)} (h : DF X e m) : DS X (.Return (some e) pos) (mRetF m) := ⟨_, ps_ret h.pe, fun hid O B H σ E o Dn r hm k => by
  obtain ⟨ds, h1, rfl⟩ := map_some hm
  exact h.si hid O B H σ E ds r h1 _ fun p xs H1 hp e1 hx r1 => k p xs H1 (Evl.fresh_back r.ex hp) ((r.grow e1).ex) hx (r1.mono (rem_sub fun a z => by
    rcases z with z | z
    · exact .inl (.inl z)
    · exact .inr z) ds)⟩
@[simp] def mRetO (i : Nat) : En → Option Out := fun E => match E[i]? with
  | some (.ow ds) => some (.rf ds)
  | some (.fz d) => some (.rt d)
  | _ => none
theorem ds_retO (i : Nat) {x : Str} {p : Pos} (hN : X.N[i]? = some x := by rfl) (hv : Vis X.env.scope x := by first | exact Or.inl rfl | exact Or.inr (Or.inl rfl) | exact Or.inr (Or.inr rfl)) (hd : (x == ("__debug__" : Str)) = false := by decide)
    (hcd : (x == ("__classdict__" : Str)) = false := by decide) : DS X (.Return (some (.Name x p)) pos) (mRetO i) := ⟨_, ps_ret (pe_var hN hv hd hcd), fun hid O B H σ E o Dn r hm k => by
  unfold mRetO at hm
  split at hm
  · rename_i ds h
    cases hm
    obtain ⟨q, xs, h1, h2, h3, h4⟩ := r.ow i ds h
    refine ⟨.ref q, h1, k q xs H ?_ r.ex h3 (h4.mono (rem_sub fun a z => ?_) ds)⟩
    · cases e : B q with
      | none => rfl
      | some u => exact absurd h2 (r.base q u e).2
    · rcases z with z | z
      · exact .inl z
      · exact .inr (z ▸ h2)
  · rename_i d h
    cases hm
    obtain ⟨v, h1, h2⟩ := r.fz i d h
    exact ⟨v, h1, k v H r.ex (h2.mono (rem_sub fun a z => .inl z) d)⟩
  · cases hm⟩
theorem ds_retN : DS X (.Return none pos) (fun _ => some (.rt .non)) := ⟨_, ps_retN, fun hid O B H σ E o Dn r hm k => by
  cases hm
  exact k .non H r.ex .non⟩
/-- x = e -/
@[simp] def mSet (i : Nat) (m : En → Option D) : En → Option Out := fun E => (m E).map fun d => .nx (E.set i (.fz d))
theorem ds_set (i : Nat) {x : Str} {e : Expr} {m : En → Option D} {pos' : Pos} (hN : X.N.Nodup) (he : DE X e m) (hi : X.N[i]? = some x := by rfl) (hx : Loc X.env.scope x := by first | exact Or.inl rfl | exact Or.inr rfl) (hs : swapsWith e (some (.Name x pos')) pos.line X.env = pure false := by rfl)
    (hf : X.fn x = true ∨ X.env.scope.names.lookup x = some .local := by first | exact .inl rfl | exact .inr rfl) : DS X (.Assign [.Name x pos'] e pos) (mSet i m) := ⟨_, ps_set hN hi hx he.pe hs hf, fun hid O B H σ E o Dn r hm k => by
  obtain ⟨d, h1, rfl⟩ := map_some hm
  exact he.si hid O B H σ E d r h1 _ fun v H1 e1 r1 => k O _ H1 ((r.grow e1).put i r1)⟩
/-- x = e, e a new list that x then owns -/
@[simp] def mSetO (i : Nat) (m : En → Option (List D)) : En → Option Out := fun E => (m E).map fun ds => .nx (E.set i (.ow ds))
theorem ss_setO {K : PySem.W.Frag} (i : Nat) {te : TE} {m : En → Option (List D)} (h : SF K te m) : SS K (tAsg te (gName i)) (mSetO i m) := fun hid O B H σ E o Dn r hm k => by
  obtain ⟨ds, h1, rfl⟩ := map_some hm
  exact h hid O B H σ E ds r h1 _ fun p xs H1 hp e1 hx r1 => k _ _ H1 (r.putO i hp e1 hx r1)
theorem ds_setO (i : Nat) {x : Str} {e : Expr} {m : En → Option (List D)} {pos' : Pos} (hN : X.N.Nodup) (he : DF X e m) (hi : X.N[i]? = some x := by rfl) (hx : Loc X.env.scope x := by first | exact Or.inl rfl | exact Or.inr rfl) (hs : swapsWith e (some (.Name x pos')) pos.line X.env = pure false := by rfl)
    (hf : X.fn x = true ∨ X.env.scope.names.lookup x = some .local := by first | exact .inl rfl | exact .inr rfl) : DS X (.Assign [.Name x pos'] e pos) (mSetO i m) := ⟨_, ps_set hN hi hx he.pe hs hf, ss_setO i he.si⟩
/-- targets = e -/
@[simp] def mAsg (g : En → D → Option En) (m : En → Option D) : En → Option Out := fun E => (m E).bind fun d => (g E d).map .nx
theorem ds_asg {tg e : Expr} {js : List Nat} {m : En → Option D} {mg : En → D → Option En} (he : DE X e m) (hg : DG X tg js mg) (hs : swapsWithSole [tg] e pos.line X.env = pure false := by rfl) (hw : swappedStores [tg] e X.env = pure none := by rfl)
    (h1 : (assignEach [tg] X.env).map (·.2) = [assign tg X.env] := by rfl) : DS X (.Assign [tg] e pos) (mAsg mg m) := ⟨_, ps_asg he.pe hg.pg hs hw h1, fun hid O B H σ E o Dn r hm k => by
  obtain ⟨d, h1, hm⟩ := bind_some hm
  obtain ⟨E', h2, rfl⟩ := map_some hm
  exact he.si hid O B H σ E d r h1 _ fun v H1 e1 r1 => hg.si hid O B H1 σ E v d E' (r.grow e1) r1 h2 _ fun σ' r' _ => k O σ' H1 r'⟩
/-- e as a statement -/
@[simp] def mDrop (m : En → Option D) : En → Option Out := fun E => (m E).map fun _ => .nx E
theorem ds_expr {e : Expr} {m : En → Option D} (he : DE X e m) (hs : swapsWith e none pos.line X.env = pure false := by rfl) : DS X (.Expr e pos) (mDrop m) := ⟨_, ps_expr he.pe hs, fun hid O B H σ E o Dn r hm k => by
  obtain ⟨d, h1, rfl⟩ := map_some hm
  exact he.si hid O B H σ E d r h1 _ fun v H1 e1 r1 => k O σ H1 (r.grow e1)⟩
@[simp] def mIfS (c : En → Option Bool) (a b : En → Option Out) : En → Option Out := fun E => (c E).bind fun k => if k = true then a E else b E
theorem ds_if {c : Expr} {a b : List Stmt} {mc : En → Option Bool} (hc : DB X c mc) (ha : DSs X a m) (hb : DSs X b n) : DS X (.If c a b pos) (mIfS mc m n) := ⟨_, ps_if hc.pt ha.ps hb.ps, fun hid O B H σ E o Dn r hm k => by
  obtain ⟨b, h1, hm⟩ := bind_some hm
  refine hc.si hid O B H σ E b r h1 _ fun H1 e1 => ?_
  cases b with
  | true =>
    rw [if_pos rfl] at hm ⊢
    exact ha.si hid O B H1 σ E o Dn (r.grow e1) hm k
  | false =>
    rw [if_neg Bool.false_ne_true] at hm ⊢
    exact hb.si hid O B H1 σ E o Dn (r.grow e1) hm k⟩
/-! loops -/
def runFor (mg : En → D → Option En) (mb : En → Option Out) : List D → En → Option Out
  | [], E => some (.nx E)
  | d :: ds, E => (mg E d).bind fun E1 => (mb E1).bind fun o => match o with
    | .nx E2 => runFor mg mb ds E2
    | .ct E2 => runFor mg mb ds E2
    | .bk E2 => some (.nx E2)
    | .rt r => some (.rt r)
    | .rf r => some (.rf r)
@[simp] def mFor (mi : En → Option (List D)) (mg : En → D → Option En) (mb : En → Option Out) : En → Option Out := fun E => (mi E).bind fun ds => runFor mg mb ds E
theorem ss_for {K : PySem.W.Frag} {wi : TI} {g : TG} {tb : TS} {js : List Nat} {mi : En → Option (List D)} {mg : En → D → Option En} {mb : En → Option Out} (hi : SI K wi mi) (hg : SG K g js mg) (hb : SS K tb mb) : SS K (tFor wi g tb) (mFor mi mg mb) := fun hid O B H σ E o Dn r hm k => by
  obtain ⟨ds, h1, hm⟩ := bind_some hm
  refine hi hid O B H σ E ds r h1 _ fun J H2 G Y e2 w hG hY => ?_
  have r2 := r.grow e2
  have rb := r2.rebase
  have back : ∀ {O' H' σ' E'}, RE K hid O' (rem O H2) H' σ' E' → RE K hid O' B H' σ' E' := fun q => q.back r2.old r.hidd
  have vis : ∀ {O' H' σ' E'}, RE K hid O' (rem O H2) H' σ' E' → Ex (rem (orS hid O) H2) (rem (orS hid O') H') := fun q a u z => by
    obtain ⟨z1, z2⟩ := rem_some.mp z
    obtain ⟨z3, z4⟩ := q.base a u (rem_some.mpr ⟨fun y => z1 (.inr y), z2⟩)
    refine rem_some.mpr ⟨fun y => ?_, z3⟩
    rcases y with y | y
    · exact z1 (.inl y)
    · exact z4 y
  refine for_it w (fun i σ' H' => ∃ O' E', RE K hid O' (rem O H2) H' σ' E' ∧ runFor mg mb (ds.drop i) E' = some o) ⟨O, E, rb, hm⟩ (fun i σ' H' _ p => ?_) (fun i x σ' H3 H4 hi p y => ?_) (fun σ' H' p => ?_)
  · obtain ⟨O', E', q, _⟩ := p
    exact hG H' (Ex.trans (vis q) rem_ex)
  · obtain ⟨O', E', q, hr⟩ := p
    rw [List.drop_eq_getElem_cons hi] at hr
    obtain ⟨E1, k1, hr⟩ := bind_some hr
    obtain ⟨o1, k2, hr⟩ := bind_some hr
    obtain ⟨e4, rx⟩ := hY i H3 x H4 (orS hid O') ds[i] y (List.getElem?_eq_getElem hi) (vis q) fun p hp => q.fresh hp
    refine hg hid O' (rem O H2) H4 σ' E' x ds[i] E1 (q.grow e4) rx k1 _ fun σ2 r3 _ => ?_
    refine hb hid O' (rem O H2) H4 σ2 E1 o1 _ r3 k2 ?_
    cases o1 with
    | nx E2 => exact fun O5 σ5 H5 r5 => ⟨O5, E2, r5, hr⟩
    | ct E2 => exact fun O5 σ5 H5 r5 => ⟨O5, E2, r5, hr⟩
    | bk E2 => cases hr; exact fun O5 σ5 H5 r5 => k O5 σ5 H5 (back r5)
    | rt d => cases hr; exact fun v H5 e5 r5 => k v H5 (Ex.trans (Ex.trans r2.old (Ex.refl _)) e5) r5
    | rf d => cases hr; exact fun p xs H5 hp e5 hx r5 => k p xs H5 (Evl.fresh_back r2.old hp) (Ex.trans r2.old e5) hx r5
  · obtain ⟨O', E', q, hr⟩ := p
    rw [List.drop_length] at hr
    cases hr
    exact k O' σ' H' (back q)
theorem ds_for {tg iter : Expr} {body : List Stmt} {js : List Nat} {mi : En → Option (List D)} {mg : En → D → Option En} {mb : En → Option Out} (hp : PassesOwn (model X.prog X.w) X.A X.env X.xe) (hc : X.calm = true) (hi : DI X tg iter mi) (hg : DG X tg js mg) (hb : DSs X body mb)
    (hs : ∀ x, foldedSetIterable iter X.env x = pure x := by intro _; rfl) : DS X (.For tg iter body [] pos) (mFor mi mg mb) := ⟨_, ps_for hp hc hi.pi hg.pg hb.ps hs, ss_for hi.si hg.si hb.si⟩
def runWhile (mc : En → Option Bool) (mb : En → Option Out) : Nat → En → Option Out
  | 0, _ => none
  | n + 1, E => (mc E).bind fun b => if b = true then (mb E).bind fun o => match o with
    | .nx E2 => runWhile mc mb n E2
    | .ct E2 => runWhile mc mb n E2
    | .bk E2 => some (.nx E2)
    | .rt r => some (.rt r)
    | .rf r => some (.rf r)
    else some (.nx E)
def mWhile (fuel : Nat) (mc : En → Option Bool) (mb : En → Option Out) : En → Option Out := fun E => runWhile mc mb fuel E
theorem ss_while {K : PySem.W.Frag} (fuel : Nat) {tc : TT} {tb : TS} {mc : En → Option Bool} {mb : En → Option Out} (hc : SB K tc mc) (hb : SS K tb mb) : SS K (tWhile tc tb) (mWhile fuel mc mb) := fun hid O B H σ E o Dn r hm k => by
  refine ⟨fun n σ' H' => ∃ O' E', RE K hid O' B H' σ' E' ∧ runWhile mc mb n E' = some o, ⟨fuel, O, E, r, hm⟩, fun n σ' H' p => ?_⟩
  obtain ⟨O', E', q, hr⟩ := p
  cases n with
  | zero => cases hr
  | succ n =>
    obtain ⟨b, k1, hr⟩ := bind_some hr
    refine hc hid O' B H' σ' E' b q k1 _ fun H1 e1 => ?_
    cases b with
    | true =>
      rw [if_pos rfl] at hr ⊢
      obtain ⟨o1, k2, hr⟩ := bind_some hr
      refine ⟨fun σ2 H2 => ∃ O2 E2, RE K hid O2 B H2 σ2 E2 ∧ runWhile mc mb n E2 = some o, fun σ2 H2 z => ⟨n, Nat.lt_succ_self n, z⟩, ?_⟩
      refine hb hid O' B H1 σ' E' o1 _ (q.grow e1) k2 ?_
      cases o1 with
      | nx E2 => exact fun O5 σ5 H5 r5 => ⟨O5, E2, r5, hr⟩
      | ct E2 => exact fun O5 σ5 H5 r5 => ⟨O5, E2, r5, hr⟩
      | bk E2 => cases hr; exact k
      | rf E2 => cases hr; exact k
      | rt d => cases hr; exact k
    | false =>
      rw [if_neg Bool.false_ne_true] at hr ⊢
      cases hr
      exact k O' σ' H1 (q.grow e1)
theorem ds_while (fuel : Nat) {c : Expr} {body : List Stmt} {mc : En → Option Bool} {mb : En → Option Out} (hp : PassesOwn (model X.prog X.w) X.A X.env X.xe) (hc : DB X c mc) (hb : DSs X body mb) : DS X (.While c body [] pos) (mWhile fuel mc mb) :=
  ⟨_, ps_while hp hc.pt hb.ps, ss_while fuel hc.si hb.si⟩
end
end Sx

set_option Elab.async false
set_option linter.all false
set_option maxRecDepth 100000
set_option maxHeartbeats 1000000
namespace Sx
open PySem PySem.Spec PyProof.Rows L2
open Evl (Ex)

/-! ### built-in functions -/
section
variable {X : Cx} {a b : Expr} {ta tb : TE} {ma mb : En → Option D} {p pos : Pos}
/-- one argument -/
theorem se_call1 {K : PySem.W.Frag} {r : List V → Hp → VK → Prop} {f : D → Option D} (ha : ST K ta ma)
    (h : ∀ (hid O : AS) (H : Hp) (v : V) (x d : D), Al hid O H → Tv K hid O H v x → f x = some d → ∀ Q : VK, (∀ w H', Ex H H' → Rp K (rem (orS hid O) H') w d → Q w H') → r [v] H Q) : SE K (tCB r (tCons ta tNil)) (mUn f ma) := fun hid O B H σ E d re hm Q q => by
  obtain ⟨x, h1, hm⟩ := bind_some hm
  refine ha hid O B H σ E x re h1 _ fun v H1 e1 r1 => ?_
  exact h hid O H1 v x d (al_of (re.grow e1)) r1 hm Q fun w H2 e2 r2 => q w H2 (e1.trans e2) r2
abbrev rLenQ (K : PySem.W.Frag) : List V → Hp → VK → Prop := fun xs H Q => ∃ p ys, xs = [V.ref p] ∧ (SqL K H p ys ∨ SqT K H p ys) ∧ Q (.int ys.length) H
abbrev rLenS : List V → Hp → VK → Prop := fun xs H Q => ∃ z : Str, xs = [V.str z] ∧ z.length ≤ sizeLine ∧ Q (.int z.length) H
abbrev rLenAll (K : PySem.W.Frag) : List V → Hp → VK → Prop := fun xs H Q => rLenQ K xs H Q ∨ rLenS xs H Q
@[simp] def lenD : D → Option D
  | .lst ds => some (.int ds.length)
  | .tup ds => some (.int ds.length)
  | .scr ns => some (.int ns.length)
  | .str z => if z.length ≤ 100000 then some (.int z.length) else none
  | _ => none
theorem de_len (hm : X.mg "len" = none) (ha : DT X a ma) (hg : Gl X "len" := by rfl) (hs : starEach [a] X.env = (false, eval a X.env) :: starEach [] X.env := by rfl) (hpl : (backTo pos (starEach [] X.env)).any (·.1) = false := by rfl) :
    DE X (.Call (.Name "len" p) [a] [] pos) (mUn lenD ma) := ⟨_, pe_callB (CallR.or call_len_seq call_len_str) hg hm PySem.boot_len (pa_cons ha.pe pa_nil hs) (by decide) (by decide) hs hpl, se_call1 ha.si fun hid O H v x d al rv hx Q q => by
  unfold lenD at hx
  split at hx
  · cases hx
    obtain ⟨p, xs, rfl, h1, h2⟩ := rv.seq
    refine .inl ⟨p, xs, rfl, .inl h1, ?_⟩
    rw [h2.length]
    exact q _ H (Ex.refl H) (.int _)
  · cases hx
    obtain ⟨p, xs, rfl, h1, h2⟩ := rv.tup
    refine .inl ⟨p, xs, rfl, .inr (Evl.ex_t rem_ex h1), ?_⟩
    rw [h2.length]
    exact q _ H (Ex.refl H) (.int _)
  · cases hx
    obtain ⟨p, rfl, h1⟩ := rv.scr
    refine .inl ⟨p, _, rfl, .inl h1, ?_⟩
    rw [List.length_map]
    exact q _ H (Ex.refl H) (.int _)
  · obtain ⟨h1, rfl⟩ := ite_some hx
    obtain rfl := rv.str
    exact .inr ⟨_, rfl, size_le h1, q _ H (Ex.refl H) (.int _)⟩
  · cases hx⟩
/-- int(x) of an int, of a bool -/
@[simp] def intD : D → Option D
  | .int i => some (.int i)
  | .bl b => some (.int (if b = true then 1 else 0))
  | _ => none
theorem de_int1 (hm : X.mg "int" = none) (ha : DT X a ma) (hg : Gl X "int" := by rfl) (hs : starEach [a] X.env = (false, eval a X.env) :: starEach [] X.env := by rfl) (hpl : (backTo pos (starEach [] X.env)).any (·.1) = false := by rfl) :
    DE X (.Call (.Name "int" p) [a] [] pos) (mUn intD ma) := ⟨_, pe_callTy call_int1 hg hm boot_int (pa_cons ha.pe pa_nil hs) (by decide) (by decide) hs hpl, se_call1 ha.si fun hid O H v x d al rv hx Q q => by
  unfold intD at hx
  split at hx
  · cases hx
    exact .inl ⟨_, by rw [rv.int], q _ H (Ex.refl H) (.int _)⟩
  · cases hx
    exact .inr ⟨_, by rw [rv.bl], q _ H (Ex.refl H) (.int _)⟩
  · cases hx⟩
@[simp] def minD : D → D → Option D
  | .int i, .int j => some (.int (if j < i then j else i))
  | _, _ => none
@[simp] def maxD : D → D → Option D
  | .int i, .int j => some (.int (if j > i then j else i))
  | _, _ => none
theorem de_min2 (hc : X.calm = true) (hm : X.mg "min" = none) (ha : DT X a ma) (hb : DT X b mb) (hg : Gl X "min" := by rfl) (hs : starEach [a, b] X.env = (false, eval a X.env) :: starEach [b] X.env := by rfl) (hs2 : starEach [b] X.env = (false, eval b X.env) :: starEach [] X.env := by rfl) (hpl : (backTo pos (starEach [b] X.env)).any (·.1) = false := by rfl) :
    DE X (.Call (.Name "min" p) [a, b] [] pos) (mBin minD ma mb) := ⟨_, pe_callB (call_min2 hc) hg hm (by decide +kernel) (pa_cons ha.pe (pa_cons hb.pe pa_nil hs2) hs) (by decide) (by decide) hs hpl, fun hid O B H σ E d re hm Q q => by
  obtain ⟨x, h1, hm⟩ := bind_some hm
  obtain ⟨y, h2, hm⟩ := bind_some hm
  unfold minD at hm
  split at hm
  · cases hm
    refine ha.si hid O B H σ E _ re h1 _ fun v H1 e1 r1 => ?_
    refine hb.si hid O B H1 σ E _ (re.grow e1) h2 _ fun u H2 e2 r2 => ?_
    exact ⟨_, _, by rw [r1.int, r2.int], q _ H2 (e1.trans e2) (.int _)⟩
  · cases hm⟩
theorem de_max2 (hc : X.calm = true) (hm : X.mg "max" = none) (ha : DT X a ma) (hb : DT X b mb) (hg : Gl X "max" := by rfl) (hs : starEach [a, b] X.env = (false, eval a X.env) :: starEach [b] X.env := by rfl) (hs2 : starEach [b] X.env = (false, eval b X.env) :: starEach [] X.env := by rfl) (hpl : (backTo pos (starEach [b] X.env)).any (·.1) = false := by rfl) :
    DE X (.Call (.Name "max" p) [a, b] [] pos) (mBin maxD ma mb) := ⟨_, pe_callB (call_max2 hc) hg hm (by decide +kernel) (pa_cons ha.pe (pa_cons hb.pe pa_nil hs2) hs) (by decide) (by decide) hs hpl, fun hid O B H σ E d re hm Q q => by
  obtain ⟨x, h1, hm⟩ := bind_some hm
  obtain ⟨y, h2, hm⟩ := bind_some hm
  unfold maxD at hm
  split at hm
  · cases hm
    refine ha.si hid O B H σ E _ re h1 _ fun v H1 e1 r1 => ?_
    refine hb.si hid O B H1 σ E _ (re.grow e1) h2 _ fun u H2 e2 r2 => ?_
    exact ⟨_, _, by rw [r1.int, r2.int], q _ H2 (e1.trans e2) (.int _)⟩
  · cases hm⟩
/-! lists of ints -/
def allInts : List D → Option (List Int)
  | [] => some []
  | .int i :: ds => (allInts ds).map (i :: ·)
  | _ :: _ => none
theorem allInts_some : ∀ {ds : List D} {ns : List Int}, allInts ds = some ns → ds = ns.map .int
  | [], ns, h => by cases h; rfl
  | .int i :: ds, ns, h => by
    obtain ⟨ms, h1, rfl⟩ := map_some (show (allInts ds).map (i :: ·) = some ns from h)
    rw [allInts_some h1]
    rfl
  | .non :: ds, ns, h => by cases h
  | .bl _ :: ds, ns, h => by cases h
  | .str _ :: ds, ns, h => by cases h
  | .lst _ :: ds, ns, h => by cases h
  | .tup _ :: ds, ns, h => by cases h
  | .scr _ :: ds, ns, h => by cases h
theorem allInts_map : ∀ (ns : List Int), allInts (ns.map .int) = some ns
  | [] => rfl
  | n :: ns => by
    show (allInts (ns.map .int)).map (n :: ·) = _
    rw [allInts_map ns]
    rfl
@[simp] def intsOf : D → Option (List Int)
  | .lst ds => allInts ds
  | .scr ns => some ns
  | _ => none
theorem ints_tv {K : PySem.W.Frag} {hid O : AS} {H : Hp} {v : V} {x : D} {ns : List Int} (rv : Tv K hid O H v x) (h : intsOf x = some ns) : ∃ p, v = .ref p ∧ SqL K H p (ns.map V.int) := by
  unfold intsOf at h
  split at h
  · obtain ⟨p, xs, rfl, h1, h2⟩ := rv.seq
    rw [allInts_some h] at h2
    rw [RpL.ints_of h2] at h1
    exact ⟨p, rfl, h1⟩
  · cases h
    exact rv.scr
  · cases h
@[simp] def sumD (d : D) : Option D := (intsOf d).map fun ns => .int ns.sum
theorem de_sum (hc : X.calm = true) (hm : X.mg "sum" = none) (ha : DT X a ma) (hg : Gl X "sum" := by rfl) (hs : starEach [a] X.env = (false, eval a X.env) :: starEach [] X.env := by rfl) (hpl : (backTo pos (starEach [] X.env)).any (·.1) = false := by rfl) :
    DE X (.Call (.Name "sum" p) [a] [] pos) (mUn sumD ma) := ⟨_, pe_callB (cr_sum hc) hg hm (by decide +kernel) (pa_cons ha.pe pa_nil hs) (by decide) (by decide) hs hpl, se_call1 ha.si fun hid O H v x d al rv hx Q q => by
  obtain ⟨ns, h1, rfl⟩ := map_some hx
  obtain ⟨p, rfl, h2⟩ := ints_tv rv h1
  exact ⟨p, ns, rfl, h2, q _ H (Ex.refl H) (.int _)⟩⟩
/-- list(x) of a list, of a tuple -/
@[simp] def seqOf : D → Option (List D)
  | .lst ds => some ds
  | .tup ds => some ds
  | .scr ns => some (ns.map .int)
  | _ => none
theorem df_list (hm : X.mg "list" = none) (ha : DT X a ma) (hg : Gl X "list" := by rfl) (hs : starEach [a] X.env = (false, eval a X.env) :: starEach [] X.env := by rfl) (hpl : (backTo pos (starEach [] X.env)).any (·.1) = false := by rfl) :
    DF X (.Call (.Name "list" p) [a] [] pos) (fun E => (ma E).bind seqOf) := ⟨_, pe_callTy call_list_of hg hm (by decide +kernel) (pa_cons ha.pe pa_nil hs) (by decide) (by decide) hs hpl, fun hid O B H σ E ds re hm Q q => by
  obtain ⟨x, h1, hm⟩ := bind_some hm
  refine ha.si hid O B H σ E _ re h1 _ fun v H1 e1 r1 => ?_
  unfold seqOf at hm
  split at hm
  · cases hm
    obtain ⟨p, xs, rfl, h1, h2⟩ := r1.seq
    refine ⟨p, xs, rfl, .inl h1, fun l hl => ?_⟩
    have ex : Ex H1 (upd H1 l (.lst xs)) := Ex.new hl
    exact q l _ _ (Evl.fresh_back e1 hl) (e1.trans ex) upd_same (h2.mono (rem_new hl ex) _)
  · cases hm
    obtain ⟨p, xs, rfl, h1, h2⟩ := r1.tup
    refine ⟨p, xs, rfl, .inr (Evl.ex_t rem_ex h1), fun l hl => ?_⟩
    have ex : Ex H1 (upd H1 l (.lst xs)) := Ex.new hl
    exact q l _ _ (Evl.fresh_back e1 hl) (e1.trans ex) upd_same (h2.mono (rem_new hl ex) _)
  · cases hm
    obtain ⟨p, rfl, h1⟩ := r1.scr
    refine ⟨p, _, rfl, .inl h1, fun l hl => ?_⟩
    exact q l _ _ (Evl.fresh_back e1 hl) (e1.trans (Ex.new hl)) upd_same (RpL.ints _)
  · cases hm⟩
/-- tuple(x) of a list, of a tuple -/
@[simp] def tupleD : D → Option D
  | .lst ds => some (.tup ds)
  | .tup ds => some (.tup ds)
  | _ => none
theorem de_tuple (hm : X.mg "tuple" = none) (ha : DT X a ma) (hg : Gl X "tuple" := by rfl) (hs : starEach [a] X.env = (false, eval a X.env) :: starEach [] X.env := by rfl) (hpl : (backTo pos (starEach [] X.env)).any (·.1) = false := by rfl) :
    DE X (.Call (.Name "tuple" p) [a] [] pos) (mUn tupleD ma) := ⟨_, pe_callTy call_tuple_of hg hm (by decide +kernel) (pa_cons ha.pe pa_nil hs) (by decide) (by decide) hs hpl, se_call1 ha.si fun hid O H v x d al rv hx Q q => by
  unfold tupleD at hx
  split at hx
  · cases hx
    obtain ⟨p, xs, rfl, h1, h2⟩ := rv.seq
    refine ⟨p, xs, rfl, .inl ⟨h1, fun l hl => ?_⟩⟩
    have ex : Ex H (upd H l (.tup xs)) := Ex.new hl
    exact q _ _ ex (.tup (Evl.st_of (vis_new (al l hl) upd_same)) (h2.mono (rem_mono ex) _))
  · cases hx
    obtain ⟨p, xs, rfl, h1, h2⟩ := rv.tup
    exact ⟨p, xs, rfl, .inr ⟨Evl.ex_t rem_ex h1, q _ H (Ex.refl H) (.tup h1 h2)⟩⟩
  · cases hx⟩
/-! sorted -/
def insI (x : Int) : List Int → List Int
  | [] => [x]
  | y :: ys => if x ≤ y then x :: y :: ys else y :: insI x ys
def sortI : List Int → List Int
  | [] => []
  | x :: xs => insI x (sortI xs)
theorem insI_perm (x : Int) : ∀ ys, (insI x ys).Perm (x :: ys)
  | [] => .refl _
  | y :: ys => by
    unfold insI
    split
    · exact .refl _
    · exact ((insI_perm x ys).cons y).trans (.swap x y ys)
theorem sortI_perm : ∀ xs, (sortI xs).Perm xs
  | [] => .refl _
  | x :: xs => (insI_perm x (sortI xs)).trans ((sortI_perm xs).cons x)
theorem insI_le {x : Int} : ∀ {ys : List Int}, ys.Pairwise (· ≤ ·) → (insI x ys).Pairwise (· ≤ ·)
  | [], _ => List.pairwise_singleton _ _
  | y :: ys, h => by
    unfold insI
    obtain ⟨h1, h2⟩ := List.pairwise_cons.mp h
    split
    · rename_i hx
      refine List.pairwise_cons.mpr ⟨fun z hz => ?_, h⟩
      rcases List.mem_cons.mp hz with e | e
      · rw [e]; exact hx
      · exact Int.le_trans hx (h1 z e)
    · rename_i hx
      refine List.pairwise_cons.mpr ⟨fun z hz => ?_, insI_le h2⟩
      rcases List.mem_cons.mp ((insI_perm x ys).mem_iff.mp hz) with e | e
      · rw [e]; omega
      · exact h1 z e
theorem sortI_le : ∀ xs : List Int, (sortI xs).Pairwise (· ≤ ·)
  | [] => .nil
  | x :: xs => insI_le (sortI_le xs)
theorem sorted_uniq : ∀ {xs ys : List Int}, xs.Perm ys → xs.Pairwise (· ≤ ·) → ys.Pairwise (· ≤ ·) → xs = ys
  | [], ys, p, _, _ => by rw [List.nil_perm.mp p]
  | x :: xs, [], p, _, _ => by
    have := p.length_eq
    simp at this
  | x :: xs, y :: ys, p, h1, h2 => by
    obtain ⟨a1, a2⟩ := List.pairwise_cons.mp h1
    obtain ⟨b1, b2⟩ := List.pairwise_cons.mp h2
    have e : x = y := by
      have hx : x ∈ y :: ys := p.mem_iff.mp (List.mem_cons_self ..)
      have hy : y ∈ x :: xs := p.mem_iff.mpr (List.mem_cons_self ..)
      have l1 : y ≤ x := by
        rcases List.mem_cons.mp hx with z | z
        · rw [z]; exact Int.le_refl _
        · exact b1 x z
      have l2 : x ≤ y := by
        rcases List.mem_cons.mp hy with z | z
        · rw [z]; exact Int.le_refl _
        · exact a1 y z
      omega
    subst e
    rw [sorted_uniq p.cons_inv a2 b2]
theorem df_sorted (hm : X.mg "sorted" = none) (ha : DT X a ma) (hg : Gl X "sorted" := by rfl) (hs : starEach [a] X.env = (false, eval a X.env) :: starEach [] X.env := by rfl) (hpl : (backTo pos (starEach [] X.env)).any (·.1) = false := by rfl) :
    DF X (.Call (.Name "sorted" p) [a] [] pos) (fun E => ((ma E).bind intsOf).map fun ns => (sortI ns).map .int) := ⟨_, pe_callB cr_sortedI hg hm (by decide +kernel) (pa_cons ha.pe pa_nil hs) (by decide) (by decide) hs hpl, fun hid O B H σ E ds re hm Q q => by
  obtain ⟨ns, h1, rfl⟩ := map_some hm
  obtain ⟨x, h0, h1⟩ := bind_some h1
  refine ha.si hid O B H σ E _ re h0 _ fun v H1 e1 r1 => ?_
  obtain ⟨p, rfl, h2⟩ := ints_tv r1 h1
  refine ⟨p, ns, rfl, h2, fun ns' l hp hs hl => ?_⟩
  rw [sorted_uniq (hp.trans (sortI_perm ns).symm) hs (sortI_le ns)]
  exact q l _ _ (Evl.fresh_back e1 hl) (e1.trans (Ex.new hl)) upd_same (RpL.ints _)⟩
/-! len(set(list of ints)) -/
def tLenSetX (K : PySem.W.Frag) (ta : TE) : TE := fun σ H Q => ta σ H fun x H1 => ∃ (l : Addr) (ns : List Int), x = V.ref l ∧ SqL K H1 l (ns.map V.int) ∧ ns.length < 4000 ∧ Q (.int (firstMet (fun i => ns.getD i 0) ns.length).length) H1
theorem pe_lenSetX {p2 q : Pos} (hc : X.calm = true) (hg : Gl X "len") (hm : X.mg "len" = none) (hg2 : Gl X "set") (hm2 : X.mg "set" = none) (ha : PE X a ta)
    (na : starEach [a] X.env = (false, eval a X.env) :: starEach [] X.env := by rfl) : PE X (.Call (.Name "len" p) [.Call (.Name "set" p2) [a] [] q] [] pos) (tLenSetX X.K ta) := by
  refine ⟨fun pins s σ H Q I h => ?_⟩
  refine Call_ (ld_blt I hg hm PySem.boot_len ?_)
  refine PyProof.Rows.callWith_builtin1 (PyProof.Rows.args_cons ?_ rfl) rfl rfl
  refine Call_ (ld_blt I hg2 hm2 PyProof.Rows.boot_set ?_)
  refine PyProof.Rows.callWith_type1 (PyProof.Rows.args_cons (thn (ha.run pins s σ H _ I h) fun v s1 ⟨x, H1, I1, r1, q1⟩ => PyProof.Rows.args_nil ?_) na) na rfl
  obtain ⟨l, ns, rfl, hq, h1, q1⟩ := q1
  cases r1
  obtain ⟨its, r, pl, hz⟩ := I1.list hq
  have hl : its.toArray.size = ns.length := by rw [List.size_toArray, ← r.length, List.length_map]
  refine call_set_list (I1.ok.hd hc) pl.isList (ns := ns) (by simpa using r.ints) (by unfold scanBound; omega) fun h' tk hS hk => ?_
  rw [hl] at hS
  refine PyProof.Rows.args_nil ?_
  obtain ⟨o, es, ep, t, ho, hex, hd, _, _, _, hf, hn⟩ := hS
  have I2 : Inv X pins σ H1 { s1 with heap := h', toks := tk } := I1.kept fun b o e => hk b o (Heap.lt_size e) e
  have hle := firstMet_length_le (fun i => ns.getD i 0) ns.length
  refine call_len_set ho hex hd hf (by rw [hn] <;> omega) ⟨.int (firstMet (fun i => ns.getD i 0) ns.length).length, H1, I2.tok _, ⟨_, by rw [hn]⟩, q1⟩
@[simp] def lenSetD (d : D) : Option D := (intsOf d).bind fun ns => if ns.length < 4000 then some (.int (firstMet (fun i => ns.getD i 0) ns.length).length) else none
theorem de_lenSet {p2 q : Pos} (hc : X.calm = true) (hm : X.mg "len" = none) (hm2 : X.mg "set" = none) (ha : DT X a ma) (hg : Gl X "len" := by rfl) (hg2 : Gl X "set" := by rfl) (na : starEach [a] X.env = (false, eval a X.env) :: starEach [] X.env := by rfl) :
    DE X (.Call (.Name "len" p) [.Call (.Name "set" p2) [a] [] q] [] pos) (mUn lenSetD ma) := ⟨_, pe_lenSetX hc hg hm hg2 hm2 ha.pe na, fun hid O B H σ E d re hm Q q => by
  obtain ⟨x, h1, hm⟩ := bind_some hm
  obtain ⟨ns, h2, hm⟩ := bind_some hm
  obtain ⟨h3, rfl⟩ := ite_some hm
  refine ha.si hid O B H σ E _ re h1 _ fun v H1 e1 r1 => ?_
  obtain ⟨p, rfl, h4⟩ := ints_tv r1 h2
  exact ⟨p, ns, rfl, h4, h3, q _ H1 e1 (.int _)⟩⟩
/-! isinstance of a built-in type -/
@[simp] def tyName : D → String
  | .non => "NoneType"
  | .bl _ => "bool"
  | .int _ => "int"
  | .str _ => "str"
  | .lst _ => "list"
  | .tup _ => "tuple"
  | .scr _ => "list"
theorem tyX_of {K : PySem.W.Frag} {hid O : AS} {H : Hp} {v : V} {d : D} (rv : Tv K hid O H v d) : TyX K H v (.type (tyName d)) := by
  cases d with
  | non => rw [rv.non]; exact .base .non
  | bl b => rw [rv.bl]; exact .base (.bl b)
  | int b => rw [rv.int]; exact .base (.int b)
  | str b => rw [rv.str]; exact .base (.str b)
  | lst ds =>
    obtain ⟨p, xs, rfl, h1, h2⟩ := rv.lst
    exact .base (.lst h1)
  | tup ds =>
    obtain ⟨p, xs, rfl, h1, h2⟩ := rv.tup
    rcases (Evl.ex_t (K := K) rem_ex h1) with (h | ⟨o, h⟩) | ⟨o, its, n, h, hc, _⟩
    · exact .base (.tup h)
    · exact .fTuple h
    · exact .kTuple h hc
  | scr ns =>
    obtain ⟨p, rfl, h1⟩ := rv.scr
    rcases h1 with (h | ⟨o, h⟩) | ⟨o, its, n, h, hc, _⟩
    · exact .base (.lst h)
    · exact .base (.frz h)
    · exact .kList h hc
@[simp] def isiD (T : String) (d : D) : Option D := (kitB (tyName d) T).map .bl
theorem de_isi {T : Str} {T' : String} {p2 : Pos} (hm : X.mg "isinstance" = none) (hm2 : X.mg T = none) (hv : bootBuiltins T = some (.type T')) (ha : DT X a ma) (hg : Gl X "isinstance" := by rfl) (hg2 : Gl X T := by rfl) (hn : T ≠ "__name__" := by decide) (hd : (T == ("__debug__" : Str)) = false := by decide)
    (hs : starEach [a, .Name T p2] X.env = (false, eval a X.env) :: starEach [.Name T p2] X.env := by rfl) (hs2 : starEach [.Name T p2] X.env = (false, eval (.Name T p2) X.env) :: starEach [] X.env := by rfl) (hpl : (backTo pos (starEach [.Name T p2] X.env)).any (·.1) = false := by rfl) :
    DE X (.Call (.Name "isinstance" p) [a, .Name T p2] [] pos) (mUn (isiD T') ma) := ⟨_, pe_callB call_isi hg hm (by decide +kernel) (pa_cons ha.pe (pa_cons (pe_bltn (v := .ty T') hg2 hm2 hv rfl hn hd) pa_nil hs2) hs) (by decide) (by decide) hs hpl, fun hid O B H σ E d re hm Q q => by
  obtain ⟨x, h1, hm⟩ := bind_some hm
  obtain ⟨b, h2, rfl⟩ := map_some hm
  refine ha.si hid O B H σ E _ re h1 _ fun v H1 e1 r1 => ?_
  exact ⟨v, .ty T', _, .type T', b, rfl, .ty T', tyX_of r1, kit_ty h2, q _ H1 e1 (.bl b)⟩⟩
end

/-! ### own defs -/
def spD (K : PySem.W.Frag) (n : Nat) (m : List D → Option D) : Sp := fun vs H Q _ => ∃ (hid : AS) (ds : List D) (d : D), (∀ a, hid a → ∃ xs, H a = some (.lst xs)) ∧ RpL K (rem hid H) vs ds ∧ ds.length = n ∧ m ds = some d ∧ ∀ v H', Ex H H' → Rp K (rem hid H') v d → Q v H'
structure Cal (P : Program) (w : World) (K : PySem.W.Frag) (mg : Str → Option Value) (base : Heap) (x : Str) (k n : Nat) (m : List D → Option D) : Prop where
  ex : ∃ (f : Addr) (fd : FuncData) (ps : List Str), mg x = some (.ref f) ∧ FnOk P w K mg base CX0 k f fd ps (spD K n m) ∧ PySem.W.keepIn K (.ref f) = true ∧ Binds K fd ps []
@[simp] def mCall (n : Nat) (m : List D → Option D) (a : En → Option (List D)) : En → Option D := fun E => (a E).bind fun ds => if ds.length = n then m ds else none
mutual
/-- no list within -/
def nolst : D → Bool
  | .lst _ => false
  | .scr _ => false
  | .tup ds => nolsts ds
  | _ => true
def nolsts : List D → Bool
  | [] => true
  | d :: ds => nolst d && nolsts ds
end
section
variable {K : PySem.W.Frag} {H : Hp} {W : AS}
theorem rem_tup (hW : ∀ a, W a → ∃ xs, H a = some (.lst xs)) {a : Addr} {xs : List V} (h : SqT K H a xs) : SqT K (rem W H) a xs := by
  rcases h with (h | ⟨o, h⟩) | h
  · refine .inl (.inl (rem_some.mpr ⟨fun z => ?_, h⟩))
    obtain ⟨ys, e⟩ := hW a z
    rw [h] at e
    cases e
  · refine .inl (.inr ⟨o, rem_some.mpr ⟨fun z => ?_, h⟩⟩)
    obtain ⟨ys, e⟩ := hW a z
    rw [h] at e
    cases e
  · exact .inr h
mutual
theorem nolst_rp (hW : ∀ a, W a → ∃ xs, H a = some (.lst xs)) : ∀ (d : D) {v : V}, nolst d = true → Rp K H v d → Rp K (rem W H) v d
  | .non, _, _, h => by cases h; exact .non
  | .bl b, _, _, h => by cases h; exact .bl b
  | .int i, _, _, h => by cases h; exact .int i
  | .str x, _, _, h => by cases h; exact .str x
  | .lst ds, _, z, h => by
    rw [nolst] at z
    cases z
  | .tup ds, _, z, h => by
    rw [nolst] at z
    cases h with
    | tup h1 h2 => exact .tup (rem_tup hW h1) (nolsts_rp hW ds z h2)
  | .scr ns, _, z, h => by
    rw [nolst] at z
    cases z
theorem nolsts_rp (hW : ∀ a, W a → ∃ xs, H a = some (.lst xs)) : ∀ (ds : List D) {vs : List V}, nolsts ds = true → RpL K H vs ds → RpL K (rem W H) vs ds
  | [], _, _, h => by cases h; exact .nil
  | d :: ds, _, z, h => by
    rw [nolsts] at z
    obtain ⟨z1, z2⟩ := Bool.and_eq_true_iff.mp z
    cases h with
    | cons h1 h2 => exact .cons (nolst_rp hW d z1 h1) (nolsts_rp hW ds z2 h2)
end
end
@[simp] def mCallT (n : Nat) (m : List D → Option D) (a : En → Option (List D)) : En → Option D := fun E => (a E).bind fun ds => if ds.length = n then (m ds).bind fun d => if nolst d = true then some d else none else none
section
variable {X : Cx} {x : Str} {k n : Nat} {m : List D → Option D} {e : Expr} {es : List Expr} {t : TA} {ma : En → Option (List D)} {p pos : Pos}
theorem de_call {P : Program} {w : World} {K : PySem.W.Frag} {mg : Str → Option Value} {base : Heap} {A : Around} (G : Cal P w K mg base x k n m) (hr : Room k A) (ha : DA X (e :: es) ma) (hA : X.A = A := by rfl) (hP : X.prog = P := by rfl) (hw : X.w = w := by rfl) (hK : X.K = K := by rfl) (hmg : X.mg = mg := by rfl) (hba : X.base = base := by rfl) (hg : Gl X x := by rfl) (hdb : (x == ("__debug__" : Str)) = false := by decide) (he : starEach (e :: es) X.env = (false, eval e X.env) :: starEach es X.env := by rfl) (hpl : (backTo pos (starEach es X.env)).any (·.1) = false := by rfl) :
    DE X (.Call (.Name x p) (e :: es) [] pos) (mCall n m ma) := by
  subst hA hP hw hK hmg hba
  obtain ⟨f, fd, ps, g1, g2, g3, g4⟩ := G.ex
  refine ⟨_, pe_call g2 hr hg g1 g3 g4 .nil pass0 ha.pa hdb he hpl, fun hid O B H σ E d re hm Q q => ?_⟩
  obtain ⟨ds, h1, hm⟩ := bind_some hm
  by_cases hl : ds.length = n
  · rw [if_pos hl] at hm
    refine ha.si hid O B H σ E ds re h1 _ fun vs H1 e1 r1 => ?_
    rw [List.append_nil]
    have re1 := re.grow e1
    refine ⟨orS hid O, ds, d, fun a z => ?_, r1, hl, hm, fun v H2 e2 r2 => q v H2 (e1.trans e2) r2⟩
    rcases z with z | z
    · obtain ⟨o, z⟩ := re1.hidd a z
      exact ⟨o, (re1.base a _ z).1⟩
    · exact (re1.own a z).2
  · rw [if_neg hl] at hm
    cases hm
theorem de_callT {P : Program} {w : World} {K : PySem.W.Frag} {mg : Str → Option Value} {base : Heap} {A : Around} (G : Cal P w K mg base x k n m) (hr : Room k A) (ha : DAT X (e :: es) ma) (hA : X.A = A := by rfl) (hP : X.prog = P := by rfl) (hw : X.w = w := by rfl) (hK : X.K = K := by rfl) (hmg : X.mg = mg := by rfl) (hba : X.base = base := by rfl) (hg : Gl X x := by rfl) (hdb : (x == ("__debug__" : Str)) = false := by decide) (he : starEach (e :: es) X.env = (false, eval e X.env) :: starEach es X.env := by rfl) (hpl : (backTo pos (starEach es X.env)).any (·.1) = false := by rfl) :
    DE X (.Call (.Name x p) (e :: es) [] pos) (mCallT n m ma) := by
  subst hA hP hw hK hmg hba
  obtain ⟨f, fd, ps, g1, g2, g3, g4⟩ := G.ex
  refine ⟨_, pe_call g2 hr hg g1 g3 g4 .nil pass0 ha.pa hdb he hpl, fun hid O B H σ E d re hm Q q => ?_⟩
  obtain ⟨ds, h1, hm⟩ := bind_some hm
  by_cases hl : ds.length = n
  · rw [if_pos hl] at hm
    obtain ⟨d', h2, hm⟩ := bind_some hm
    obtain ⟨h3, rfl⟩ := ite_some hm
    refine ha.si hid O B H σ E ds re h1 _ fun vs H1 e1 r1 => ?_
    rw [List.append_nil]
    refine ⟨noS, ds, d', fun a z => z.elim, r1.mono rem_no ds, hl, h2, fun v H2 e2 r2 => q v H2 (e1.trans e2) (nolst_rp (fun a z => ?_) _ h3 (r2.mono rem_ex _))⟩
    have re2 := (re.grow e1).grow e2
    rcases z with z | z
    · obtain ⟨o, z⟩ := re2.hidd a z
      exact ⟨o, (re2.base a _ z).1⟩
    · exact (re2.own a z).2
  · rw [if_neg hl] at hm
    cases hm
end
def callM (n N : Nat) (body : En → Option Out) : List D → Option D := fun ds => match body (ds.map Sl.fz ++ List.replicate (N - ds.length) Sl.un) with
  | some (.rt d) => some d
  | some (.rf ds) => some (.lst ds)
  | some (.nx _) => some .non
  | _ => none
def callF (n N : Nat) (body : En → Option Out) : List D → Option (List D) := fun ds => match body (ds.map Sl.fz ++ List.replicate (N - ds.length) Sl.un) with
  | some (.rf ds) => some ds
  | _ => none
def spF (K : PySem.W.Frag) (n : Nat) (m : List D → Option (List D)) : Sp := fun vs H Q _ => ∃ (hid : AS) (ds es : List D), (∀ a, hid a → ∃ xs, H a = some (.lst xs)) ∧ RpL K (rem hid H) vs ds ∧ ds.length = n ∧ m ds = some es ∧
  ∀ p xs H', H p = none → Ex H H' → H' p = some (.lst xs) → RpL K (rem (orS hid (· = p)) H') xs es → Q (.ref p) H'
structure CalF (P : Program) (w : World) (K : PySem.W.Frag) (mg : Str → Option Value) (base : Heap) (x : Str) (k n : Nat) (m : List D → Option (List D)) : Prop where
  ex : ∃ (f : Addr) (fd : FuncData) (ps : List Str), mg x = some (.ref f) ∧ FnOk P w K mg base CX0 k f fd ps (spF K n m) ∧ PySem.W.keepIn K (.ref f) = true ∧ Binds K fd ps []
@[simp] def mCallF (n : Nat) (m : List D → Option (List D)) (a : En → Option (List D)) : En → Option (List D) := fun E => (a E).bind fun ds => if ds.length = n then m ds else none
theorem df_call {X : Cx} {x : Str} {k n : Nat} {m : List D → Option (List D)} {e : Expr} {es : List Expr} {ma : En → Option (List D)} {p pos : Pos} {P : Program} {w : World} {K : PySem.W.Frag} {mg : Str → Option Value} {base : Heap} {A : Around} (G : CalF P w K mg base x k n m) (hr : Room k A) (ha : DA X (e :: es) ma) (hA : X.A = A := by rfl) (hP : X.prog = P := by rfl) (hw : X.w = w := by rfl) (hK : X.K = K := by rfl) (hmg : X.mg = mg := by rfl) (hba : X.base = base := by rfl) (hg : Gl X x := by rfl) (hdb : (x == ("__debug__" : Str)) = false := by decide) (he : starEach (e :: es) X.env = (false, eval e X.env) :: starEach es X.env := by rfl) (hpl : (backTo pos (starEach es X.env)).any (·.1) = false := by rfl) :
    DF X (.Call (.Name x p) (e :: es) [] pos) (mCallF n m ma) := by
  subst hA hP hw hK hmg hba
  obtain ⟨f, fd, ps, g1, g2, g3, g4⟩ := G.ex
  refine ⟨_, pe_call g2 hr hg g1 g3 g4 .nil pass0 ha.pa hdb he hpl, fun hid O B H σ E d re hm Q q => ?_⟩
  obtain ⟨ds, h1, hm⟩ := bind_some hm
  by_cases hl : ds.length = n
  · rw [if_pos hl] at hm
    refine ha.si hid O B H σ E ds re h1 _ fun vs H1 e1 r1 => ?_
    rw [List.append_nil]
    have re1 := re.grow e1
    refine ⟨orS hid O, ds, d, fun a z => ?_, r1, hl, hm, fun p xs H2 hp e2 hx r2 => q p xs H2 (Evl.fresh_back e1 hp) (e1.trans e2) hx r2⟩
    rcases z with z | z
    · obtain ⟨o, z⟩ := re1.hidd a z
      exact ⟨o, (re1.base a _ z).1⟩
    · exact (re1.own a z).2
  · rw [if_neg hl] at hm
    cases hm
/-- a def of the text stands at x and its body does what m says -/
structure Stands (K : PySem.W.Frag) (mg : Str → Option Value) (x : Str) (st : Stmt) : Prop where
  ex : ∃ (f : Addr) (fd : FuncData), mg x = some (.ref f) ∧ FunD K x x (defArgs st) (defBody st) (defScope st) [] [] f fd
section
variable {P : Program} {w : World} {K : PySem.W.Frag} {mg : Str → Option Value} {base : Heap}
theorem fn_mk {x : Str} {st : Stmt} {N ps : List Str} {k n : Nat} {m : En → Option Out} {f : Addr} {fd : FuncData} (F : FunD K x x (defArgs st) (defBody st) (defScope st) [] [] f fd) (S : FnScope N ps (defScope st)) (hn : ps.length = n)
    (hbody : ∀ (cdv : Value) (A : Around) (outer : List Env) (s : Shared) (H : Hp) (E : XK), Room k (A.deeper (envOfC x (defScope st) s.heap.objs.size f cdv)) →
      DSs (cxOf CX0 P w K mg base N x (defScope st) f cdv A outer s H E).nox (defBody st) m) : FnOk P w K mg base CX0 (k + 1) f fd ps (spD K n (callM n N.length m)) := by
  refine F.ok S (fun vs H Q E h => ?_) (fun cdv A outer s H vs Q E hr h => ?_)
  · obtain ⟨hid, ds, d, _, h1, h2, _⟩ := h
    rw [h1.length, h2, hn]
  · obtain ⟨hid, ds, d, h0, h1, h2, h3, q⟩ := h
    have T := hbody cdv A outer s H E hr
    refine ⟨_, T.ps.nox, ?_⟩
    have r0 : RE K hid noS H H (start N vs) (ds.map Sl.fz ++ List.replicate (N.length - ds.length) Sl.un) := RE.start h0 h1
    unfold callM at h3
    split at h3
    · rename_i d' e
      cases h3
      exact T.si hid noS H H _ _ (.rt d) _ r0 e fun v H' ex rv => q v H' ex rv
    · rename_i es e
      cases h3
      exact T.si hid noS H H _ _ (.rf es) _ r0 e fun p xs H' hp ex hx rv => q _ H' ex (.lst (rem_some.mpr ⟨fun z => (by
        obtain ⟨ys, z⟩ := h0 p z
        rw [hp] at z
        cases z), hx⟩) (rv.mono (rem_sub fun a z => .inl z) es))
    · rename_i E' e
      cases h3
      exact T.si hid noS H H _ _ (.nx E') _ r0 e fun O' σ' H' r' => q .non H' r'.ex .non
    · cases h3
theorem fnF_mk {x : Str} {st : Stmt} {N ps : List Str} {k n : Nat} {m : En → Option Out} {f : Addr} {fd : FuncData} (F : FunD K x x (defArgs st) (defBody st) (defScope st) [] [] f fd) (S : FnScope N ps (defScope st)) (hn : ps.length = n)
    (hbody : ∀ (cdv : Value) (A : Around) (outer : List Env) (s : Shared) (H : Hp) (E : XK), Room k (A.deeper (envOfC x (defScope st) s.heap.objs.size f cdv)) →
      DSs (cxOf CX0 P w K mg base N x (defScope st) f cdv A outer s H E).nox (defBody st) m) : FnOk P w K mg base CX0 (k + 1) f fd ps (spF K n (callF n N.length m)) := by
  refine F.ok S (fun vs H Q E h => ?_) (fun cdv A outer s H vs Q E hr h => ?_)
  · obtain ⟨hid, ds, d, _, h1, h2, _⟩ := h
    rw [h1.length, h2, hn]
  · obtain ⟨hid, ds, es, h0, h1, h2, h3, q⟩ := h
    have T := hbody cdv A outer s H E hr
    refine ⟨_, T.ps.nox, ?_⟩
    have r0 : RE K hid noS H H (start N vs) (ds.map Sl.fz ++ List.replicate (N.length - ds.length) Sl.un) := RE.start h0 h1
    unfold callF at h3
    split at h3
    · rename_i es' e
      cases h3
      exact T.si hid noS H H _ _ (.rf es) _ r0 e fun p xs H' hp ex hx rv => q p xs H' hp ex hx rv
    · cases h3
theorem calF_of {x : Str} {st : Stmt} {ps : List Str} {k n : Nat} {m : List D → Option (List D)} (F : Stands K mg x st)
    (hb : ∀ (kV doc pm : Value) (an : Option Addr) (cdv ct : Value) (us : List Value), us.length = ps.length → bindArgs (PySem.W.fnOf x x (defArgs st) (defBody st) (defScope st) .none kV doc pm an cdv ct) ⟨us, []⟩ = pure (ps.zip us))
    (h : ∀ {f : Addr} {fd : FuncData}, FunD K x x (defArgs st) (defBody st) (defScope st) [] [] f fd → FnOk P w K mg base CX0 k f fd ps (spF K n m)) : CalF P w K mg base x k n m := by
  obtain ⟨f, fd, g, F⟩ := F.ex
  obtain ⟨oc, od, dV, kV, doc, pm, an, cdv, ct, osl, e, lk, hcd, hd, hk⟩ := F.ex
  have F' := F
  refine ⟨f, fd, ps, g, h F, F.kp, ?_⟩
  subst e
  rcases hd with ⟨_, rfl⟩ | ⟨z, _⟩
  · exact .all (hb kV doc pm an cdv ct)
  · exact absurd rfl z
theorem fun_binds {x : Str} {st : Stmt} {ps : List Str} {f : Addr} {fd : FuncData} (F : FunD K x x (defArgs st) (defBody st) (defScope st) [] [] f fd)
    (hb : ∀ (kV doc pm : Value) (an : Option Addr) (cdv ct : Value) (us : List Value), us.length = ps.length → bindArgs (PySem.W.fnOf x x (defArgs st) (defBody st) (defScope st) .none kV doc pm an cdv ct) ⟨us, []⟩ = pure (ps.zip us)) : Binds K fd ps [] := by
  obtain ⟨oc, od, dV, kV, doc, pm, an, cdv, ct, osl, rfl, lk, hcd, hd, _⟩ := F.ex
  rcases hd with ⟨_, rfl⟩ | ⟨z, _⟩
  · exact .all (hb kV doc pm an cdv ct)
  · exact absurd rfl z
theorem cal_of {x : Str} {st : Stmt} {ps : List Str} {k n : Nat} {m : List D → Option D} (F : Stands K mg x st)
    (hb : ∀ (kV doc pm : Value) (an : Option Addr) (cdv ct : Value) (us : List Value), us.length = ps.length → bindArgs (PySem.W.fnOf x x (defArgs st) (defBody st) (defScope st) .none kV doc pm an cdv ct) ⟨us, []⟩ = pure (ps.zip us))
    (h : ∀ {f : Addr} {fd : FuncData}, FunD K x x (defArgs st) (defBody st) (defScope st) [] [] f fd → FnOk P w K mg base CX0 k f fd ps (spD K n m)) : Cal P w K mg base x k n m := by
  obtain ⟨f, fd, g, F⟩ := F.ex
  exact ⟨f, fd, ps, g, h F, F.kp, fun_binds F hb⟩
end

/-! ### lists changed in place -/
section
variable {X : Cx} {e e2 : Expr} {te te2 : TE} {m m2 : En → Option D} {x : Str} {p apos cpos pos : Pos}
theorem up_set {E : En} {i : Nat} {s t : Sl} : (E.set i s).set i t = E.set i t := List.set_set ..
@[simp] def mApp (i : Nat) (m : En → Option D) : En → Option Out := fun E => (m E).bind fun d => match E[i]? with
  | some (.ow ds) => if ds.length < 100000 then some (.nx (E.set i (.ow (ds ++ [d])))) else none
  | _ => none
theorem ow_of {E : En} {i : Nat} {d : D} {o : Out} {f : List D → Option Out} (h : (match E[i]? with
  | some (.ow ds) => f ds
  | _ => none) = some o) : ∃ ds, E[i]? = some (.ow ds) ∧ f ds = some o := by
  split at h
  · exact ⟨_, ‹_›, h⟩
  · cases h
theorem ds_app (i : Nat) (he : DE X e m) (hN : X.N[i]? = some x := by rfl) (hv : Vis X.env.scope x := by first | exact Or.inl rfl | exact Or.inr (Or.inl rfl) | exact Or.inr (Or.inr rfl)) (hd : (x == ("__debug__" : Str)) = false := by decide) (hcd : (x == ("__classdict__" : Str)) = false := by decide)
    (hbase : attributeBase (.Name x p) "append" X.env (eval (.Name x p) X.env) = eval (.Name x p) X.env := by rfl)
    (hfew : ((backTo cpos (starEach [e] X.env)).all (fun x => !x.1) && (backToKw cpos (keywordEach [] X.env)).all (fun x => x.1.isSome)
      && decide ([e].length + ([] : List Keyword).length + (if ([] : List Keyword).isEmpty then 0 else 1) < 30)) = true := by rfl)
    (hline : (apos.endLine == cpos.line) = true := by rfl) (hs : starEach [e] X.env = (false, eval e X.env) :: starEach [] X.env := by rfl) (hplain : (backTo cpos (starEach [] X.env)).any (·.1) = false := by rfl)
    (hsw : swapsWith (.Call (.Attribute (.Name x p) "append" apos) [e] [] cpos) none pos.line X.env = pure false := by rfl) :
    DS X (.Expr (.Call (.Attribute (.Name x p) "append" apos) [e] [] cpos) pos) (mApp i m) :=
  ⟨_, ps_expr (pe_bm PySem.F.plainAttrs_list PySem.F.slot_list_append PySem.F.type_list_append mt_append (pe_var hN hv hd hcd) (pa_cons he.pe pa_nil hs) hbase hfew hline hs hplain) hsw, fun hid O B H σ E o Dn r hm k => by
  obtain ⟨d, h1, hm⟩ := bind_some hm
  obtain ⟨ds, h2, hm⟩ := ow_of (d := d) hm
  obtain ⟨h3, rfl⟩ := ite_some hm
  obtain ⟨q, xs, g1, g2, g3, g4⟩ := r.ow i ds h2
  refine ⟨.ref q, g1, .inl ⟨rfl, xs, .inl (.inl g3)⟩, ?_⟩
  refine he.si hid O B H σ E d r h1 _ fun v H1 e1 r1 => ?_
  refine ⟨q, xs, v, rfl, rfl, e1 q _ g3, by rw [g4.length]; exact size_lt h3, ?_⟩
  exact k O σ _ ((r.grow e1).chg h2 g1 ((g4.mono (rem_mono e1) _).app (.one r1)))⟩
@[simp] def insD (ds : List D) (i : Int) (d : D) : Option (List D) := if ds.length < 100000 ∧ 0 ≤ i ∧ i < 100000 then some (ds.take i.toNat ++ [d] ++ ds.drop i.toNat) else none
@[simp] def mIns (i : Nat) (mk m : En → Option D) : En → Option Out := fun E => (mk E).bind fun k => (m E).bind fun d => match E[i]? with
  | some (.ow ds) => (match k with
    | .int j => (insD ds j d).map fun es => .nx (E.set i (.ow es))
    | _ => none)
  | _ => none
theorem ds_ins (i : Nat) (hk : DE X e2 m2) (he : DE X e m) (hN : X.N[i]? = some x := by rfl) (hv : Vis X.env.scope x := by first | exact Or.inl rfl | exact Or.inr (Or.inl rfl) | exact Or.inr (Or.inr rfl)) (hd : (x == ("__debug__" : Str)) = false := by decide) (hcd : (x == ("__classdict__" : Str)) = false := by decide)
    (hbase : attributeBase (.Name x p) "insert" X.env (eval (.Name x p) X.env) = eval (.Name x p) X.env := by rfl)
    (hfew : ((backTo cpos (starEach [e2, e] X.env)).all (fun x => !x.1) && (backToKw cpos (keywordEach [] X.env)).all (fun x => x.1.isSome)
      && decide ([e2, e].length + ([] : List Keyword).length + (if ([] : List Keyword).isEmpty then 0 else 1) < 30)) = true := by rfl)
    (hline : (apos.endLine == cpos.line) = true := by rfl) (hs : starEach [e2, e] X.env = (false, eval e2 X.env) :: starEach [e] X.env := by rfl) (hs2 : starEach [e] X.env = (false, eval e X.env) :: starEach [] X.env := by rfl) (hplain : (backTo cpos (starEach [e] X.env)).any (·.1) = false := by rfl)
    (hsw : swapsWith (.Call (.Attribute (.Name x p) "insert" apos) [e2, e] [] cpos) none pos.line X.env = pure false := by rfl) :
    DS X (.Expr (.Call (.Attribute (.Name x p) "insert" apos) [e2, e] [] cpos) pos) (mIns i m2 m) :=
  ⟨_, ps_expr (pe_bm PySem.F.plainAttrs_list PySem.F.slot_list_insert PySem.F.type_list_insert mt_insert (pe_var hN hv hd hcd) (pa_cons hk.pe (pa_cons he.pe pa_nil hs2) hs) hbase hfew hline hs hplain) hsw, fun hid O B H σ E o Dn r hm k => by
  obtain ⟨kk, h0, hm⟩ := bind_some hm
  obtain ⟨d, h1, hm⟩ := bind_some hm
  obtain ⟨ds, h2, hm⟩ := ow_of (d := d) hm
  obtain ⟨q, xs, g1, g2, g3, g4⟩ := r.ow i ds h2
  refine ⟨.ref q, g1, .inl ⟨rfl, xs, .inl (.inl g3)⟩, ?_⟩
  refine hk.si hid O B H σ E kk r h0 _ fun u H1 e1 r1 => ?_
  refine he.si hid O B H1 σ E d (r.grow e1) h1 _ fun v H2 e2 r2 => ?_
  split at hm
  · obtain ⟨es, h3, rfl⟩ := map_some hm
    unfold insD at h3
    obtain ⟨⟨h4, h5, h6⟩, rfl⟩ := ite_some h3
    cases r1
    have e12 := e1.trans e2
    have g4' := g4.mono (rem_mono e12) _
    refine ⟨q, xs, _, v, rfl, rfl, e12 q _ g3, by rw [g4.length]; exact size_lt h4, h5, by omega, ?_⟩
    exact k O σ _ ((r.grow e12).chg h2 g1 (((g4'.take _).app (.one r2)).app (g4'.drop _)))
  · cases hm⟩
/-- x[k] = e -/
@[simp] def mSub (i : Nat) (m mk : En → Option D) : En → Option Out := fun E => (m E).bind fun d => (mk E).bind fun k => match E[i]? with
  | some (.ow ds) => (match k with
    | .int j => (ixN ds.length j).map fun n => .nx (E.set i (.ow (ds.set n d)))
    | _ => none)
  | _ => none
theorem ds_sub (i : Nat) {spos : Pos} (he : DE X e m) (hk : DE X e2 m2) (hN : X.N[i]? = some x := by rfl) (hv : Vis X.env.scope x := by first | exact Or.inl rfl | exact Or.inr (Or.inl rfl) | exact Or.inr (Or.inr rfl)) (hd : (x == ("__debug__" : Str)) = false := by decide) (hcd : (x == ("__classdict__" : Str)) = false := by decide)
    (ha : ∀ v, assign (.Subscript (.Name x p) e2 spos) X.env v = (do
      let ov ← holding [v] (eval (.Name x p) X.env)
      let iv ← holding [v, ov] (eval e2 X.env)
      standAt spos
      holding [v, ov, iv] (setItem ov iv v)
      release [v, ov, iv] []) := by intro _; rfl)
    (hs : swapsWithSole [.Subscript (.Name x p) e2 spos] e pos.line X.env = pure false := by rfl) (hw : swappedStores [.Subscript (.Name x p) e2 spos] e X.env = pure none := by rfl)
    (h1 : (assignEach [.Subscript (.Name x p) e2 spos] X.env).map (·.2) = [assign (.Subscript (.Name x p) e2 spos) X.env] := by rfl) :
    DS X (.Assign [.Subscript (.Name x p) e2 spos] e pos) (mSub i m m2) :=
  ⟨_, ps_asg he.pe (pg_sub (pe_var hN hv hd hcd) hk.pe set_list ha) hs hw h1, fun hid O B H σ E o Dn r hm k => by
  obtain ⟨d, h0, hm⟩ := bind_some hm
  obtain ⟨kk, h1, hm⟩ := bind_some hm
  obtain ⟨ds, h2, hm⟩ := ow_of (d := d) hm
  obtain ⟨q, xs, g1, g2, g3, g4⟩ := r.ow i ds h2
  refine he.si hid O B H σ E d r h0 _ fun v H1 e1 r1 => ?_
  refine ⟨.ref q, g1, ?_⟩
  refine hk.si hid O B H1 σ E kk (r.grow e1) h1 _ fun u H2 e2 r2 => ?_
  split at hm
  · obtain ⟨n, h3, rfl⟩ := map_some hm
    cases r2
    have e12 := e1.trans e2
    refine ⟨q, xs, _, n, rfl, rfl, e12 q _ g3, by rw [g4.length]; exact h3, ?_⟩
    exact k O σ _ ((r.grow e12).chg h2 g1 ((g4.mono (rem_mono e12) _).set (r1.mono (rem_mono e2) _) n))
  · cases hm⟩
/-- x = [.. for ..] -/
theorem ds_setLc (i : Nat) {y : Str} {py : Pos} {elt tg iter : Expr} {ifs : List Expr} {scope : Scope} {own : List (Str × Nat)} {spos : Pos} {js : List Nat} {mi : En → Option (List D)} {mg : En → D → Option En} {mt : En → Option Bool} {me : En → Option D}
    (hc : X.calm = true) (hN : X.N.Nodup) (hi : DIT X tg iter mi) (ok : BlkOk X.N X.env.scope scope own) (hjs : ∀ j ∈ js, j ∈ own.map (·.2))
    (hg : ∀ (s : Shared) (H : Hp) (C : Addr) (cl : List (Str × Addr)) (fp : List Addr), DG (X.blk s H scope (compEnvC scope cl C X.env) fp) tg js mg) (ht : ∀ (s : Shared) (H : Hp) (C : Addr) (cl : List (Str × Addr)) (fp : List Addr), DTs (X.blk s H scope (compEnvC scope cl C X.env) fp) ifs mt)
    (he : ∀ (s : Shared) (H : Hp) (C : Addr) (cl : List (Str × Addr)) (fp : List Addr), DE (X.blk s H scope (compEnvC scope cl C X.env) fp) elt me)
    (hsw : swapsWith (.ListComp elt [⟨tg, iter, ifs, 0⟩] scope pos) (some (.Name y py)) spos.line X.env = pure true) (hy : X.N[i]? = some y := by rfl) (hyl : X.env.scope.names.lookup y = some .local := by rfl) (hs : ∀ x, foldedSetIterable iter X.env x = pure x := by intro _; rfl) :
    DS X (.Assign [.Name y py] (.ListComp elt [⟨tg, iter, ifs, 0⟩] scope pos) spos) (mSetO i (mComp (own.map (·.2)) mi mg mt me)) :=
  ⟨_, ps_setLc (wi := tITq X.K mi) (g := tGq X.K js mg) (tt := tBq X.K mt) (te := tE X.K me) hc hN hy hyl hsw hi.pi ok (fun s H C cl fp => (hg s H C cl fp).pg) (fun s H C cl fp => (ht s H C cl fp).pt) (fun s H C cl fp => (he s H C cl fp).pe) hs,
    ss_setO i (sf_lc hi.si (hg X.s_0 X.H_0 0 [] []).si hjs (ht X.s_0 X.H_0 0 [] []).si (he X.s_0 X.H_0 0 [] []).si)⟩
/-- .. x not changed later -/
theorem ss_setF {K : PySem.W.Frag} (i : Nat) {te : TE} {m : En → Option (List D)} (h : SF K te m) : SS K (tAsg te (gName i)) (mSet i (mList m)) := fun hid O B H σ E o Dn r hm k => by
  obtain ⟨d, h1, rfl⟩ := map_some hm
  obtain ⟨ds, h2, rfl⟩ := map_some h1
  exact h hid O B H σ E ds r h2 _ fun p xs H1 hp e1 hx r1 => k _ _ H1 ((r.grow e1).put i (.lst (vis_new (r.fresh hp) hx) (r1.mono (rem_sub fun a z => .inl z) ds)))
theorem ds_setLcF (i : Nat) {y : Str} {py : Pos} {elt tg iter : Expr} {ifs : List Expr} {scope : Scope} {own : List (Str × Nat)} {pos spos : Pos} {js : List Nat} {mi : En → Option (List D)} {mg : En → D → Option En} {mt : En → Option Bool} {me : En → Option D}
    (hc : X.calm = true) (hN : X.N.Nodup) (hi : DIT X tg iter mi) (ok : BlkOk X.N X.env.scope scope own) (hjs : ∀ j ∈ js, j ∈ own.map (·.2))
    (hg : ∀ (s : Shared) (H : Hp) (C : Addr) (cl : List (Str × Addr)) (fp : List Addr), DG (X.blk s H scope (compEnvC scope cl C X.env) fp) tg js mg) (ht : ∀ (s : Shared) (H : Hp) (C : Addr) (cl : List (Str × Addr)) (fp : List Addr), DTs (X.blk s H scope (compEnvC scope cl C X.env) fp) ifs mt)
    (he : ∀ (s : Shared) (H : Hp) (C : Addr) (cl : List (Str × Addr)) (fp : List Addr), DE (X.blk s H scope (compEnvC scope cl C X.env) fp) elt me)
    (hsw : swapsWith (.ListComp elt [⟨tg, iter, ifs, 0⟩] scope pos) (some (.Name y py)) spos.line X.env = pure true) (hy : X.N[i]? = some y := by rfl) (hyl : X.env.scope.names.lookup y = some .local := by rfl) (hs : ∀ x, foldedSetIterable iter X.env x = pure x := by intro _; rfl) :
    DS X (.Assign [.Name y py] (.ListComp elt [⟨tg, iter, ifs, 0⟩] scope pos) spos) (mSet i (mList (mComp (own.map (·.2)) mi mg mt me))) :=
  ⟨_, ps_setLc (wi := tITq X.K mi) (g := tGq X.K js mg) (tt := tBq X.K mt) (te := tE X.K me) hc hN hy hyl hsw hi.pi ok (fun s H C cl fp => (hg s H C cl fp).pg) (fun s H C cl fp => (ht s H C cl fp).pt) (fun s H C cl fp => (he s H C cl fp).pe) hs,
    ss_setF i (sf_lc hi.si (hg X.s_0 X.H_0 0 [] []).si hjs (ht X.s_0 X.H_0 0 [] []).si (he X.s_0 X.H_0 0 [] []).si)⟩
end
end Sx

set_option Elab.async false
set_option linter.all false
set_option maxRecDepth 100000

set_option Elab.async false
set_option linter.all false
set_option maxRecDepth 100000
set_option maxHeartbeats 2000000
namespace Sx
open PySem L2
theorem mulOk_l {i j : Int} (h : -18446744073709551616 < i ∧ i < 18446744073709551616) : mulOk i j = true := by
  unfold mulOk
  rw [Bool.or_eq_true_iff]
  left
  rw [decide_eq_true_eq]
  omega
theorem mulOk_r {i j : Int} (h : -18446744073709551616 < j ∧ j < 18446744073709551616) : mulOk i j = true := by
  unfold mulOk
  rw [Bool.or_eq_true_iff]
  right
  rw [decide_eq_true_eq]
  omega
theorem divOk_c {i j : Int} (h : 0 < j ∧ j < 1073741824) : divOk i j = true := by
  unfold divOk
  rw [decide_eq_true h.1, decide_eq_true h.2]
  rfl
theorem powOk_c {i j : Int} (h : 0 ≤ j ∧ j ≤ 1000000) (h2 : i.natAbs < 18446744073709551616) : powOk i j = true := by
  unfold powOk
  rw [decide_eq_true h.1, decide_eq_true h.2, decide_eq_true h2]
  rfl
theorem mul1 (a : Int) : mulOk 48271 a = true := mulOk_l (by omega)
theorem runFor_inv {mg : En → D → Option En} {mb : En → Option Out} (I : Nat → En → Prop) : ∀ (ds : List D) (i : Nat) (E : En), I i E →
    (∀ (j : Nat) (d : D) (E : En), ds[j]? = some d → I (i + j) E → ∃ E1 E2, mg E d = some E1 ∧ (mb E1 = some (.nx E2) ∨ mb E1 = some (.ct E2)) ∧ I (i + j + 1) E2) → ∃ E', runFor mg mb ds E = some (.nx E') ∧ I (i + ds.length) E'
  | [], i, E, h, _ => ⟨E, rfl, h⟩
  | d :: ds, i, E, h, hs => by
    obtain ⟨E1, E2, h1, h2, h3⟩ := hs 0 d E rfl h
    obtain ⟨E', h4, h5⟩ := runFor_inv (mg := mg) (mb := mb) I ds (i + 1) E2 h3 fun j d' E' hj hI => by
      have e : i + 1 + j = i + (j + 1) := by omega
      rw [e] at hI ⊢
      exact hs (j + 1) d' E' (by simpa using hj) hI
    refine ⟨E', ?_, by rw [List.length_cons, show i + (ds.length + 1) = i + 1 + ds.length by omega]; exact h5⟩
    show (mg E d).bind _ = _
    rw [h1]
    show (mb E1).bind _ = _
    rcases h2 with h2 | h2 <;> rw [h2] <;> exact h4
/-- each turn goes on or gives back -/
theorem runFor_find {mg : En → D → Option En} {mb : En → Option Out} (I : Nat → En → Prop) (R : Nat → D → Prop) : ∀ (ds : List D) (i : Nat) (E : En), I i E →
    (∀ (j : Nat) (d : D) (E : En), ds[j]? = some d → I (i + j) E → ∃ E1, mg E d = some E1 ∧ ((∃ E2, (mb E1 = some (.nx E2) ∨ mb E1 = some (.ct E2)) ∧ I (i + j + 1) E2) ∨ ∃ r, mb E1 = some (.rt r) ∧ R (i + j) r)) →
    (∃ E', runFor mg mb ds E = some (.nx E') ∧ I (i + ds.length) E') ∨ ∃ j r, runFor mg mb ds E = some (.rt r) ∧ j < ds.length ∧ R (i + j) r
  | [], i, E, h, _ => .inl ⟨E, rfl, h⟩
  | d :: ds, i, E, h, hs => by
    obtain ⟨E1, h1, ⟨E2, h2, h3⟩ | ⟨r, h2, h3⟩⟩ := hs 0 d E rfl h
    · have run : runFor mg mb (d :: ds) E = runFor mg mb ds E2 := by
        show (mg E d).bind _ = _
        rw [h1]
        show (mb E1).bind _ = _
        rcases h2 with h2 | h2 <;> rw [h2] <;> rfl
      rw [run]
      rcases runFor_find (mg := mg) (mb := mb) I R ds (i + 1) E2 h3 fun j d' E' hj hI => by
        have e : i + 1 + j = i + (j + 1) := by omega
        rw [e] at hI ⊢
        exact hs (j + 1) d' E' (by simpa using hj) hI with ⟨E', h4, h5⟩ | ⟨j, r, h4, h5, h6⟩
      · exact .inl ⟨E', h4, by rw [List.length_cons, show i + (ds.length + 1) = i + 1 + ds.length by omega]; exact h5⟩
      · exact .inr ⟨j + 1, r, h4, by rw [List.length_cons]; omega, by rw [show i + (j + 1) = i + 1 + j by omega]; exact h6⟩
    · refine .inr ⟨0, r, ?_, by rw [List.length_cons]; omega, h3⟩
      show (mg E d).bind _ = _
      rw [h1]
      show (mb E1).bind _ = _
      rw [h2]
      rfl
theorem runComp_enc {α β : Type} {mg : En → D → Option En} {mt : En → Option Bool} {me : En → Option D} {E0 : En} (f : α → D) (g : β → D) (P : α → β → Prop) : ∀ (xs : List α),
    (∀ x ∈ xs, ∃ E1 y, mg E0 (f x) = some E1 ∧ mt E1 = some true ∧ me E1 = some (g y) ∧ P x y) → ∃ ys : List β, runComp mg mt me E0 (xs.map f) = some (ys.map g) ∧ Paired P xs ys
  | [], _ => ⟨[], rfl, .nil⟩
  | x :: xs, h => by
    obtain ⟨E1, y, h1, h2, h3, h4⟩ := h x (List.mem_cons_self ..)
    obtain ⟨ys, h5, h6⟩ := runComp_enc (mg := mg) (mt := mt) (me := me) (E0 := E0) f g P xs fun z hz => h z (List.mem_cons_of_mem _ hz)
    refine ⟨y :: ys, ?_, .cons h4 h6⟩
    show (mg E0 (f x)).bind _ = _
    rw [h1]
    show (mt E1).bind _ = _
    rw [h2]
    show (if true = true then (me E1).bind (fun r => (runComp mg mt me E0 (xs.map f)).map (r :: ·)) else runComp mg mt me E0 (xs.map f)) = _
    rw [if_pos rfl, h3]
    show (runComp mg mt me E0 (xs.map f)).map (fun rs => g y :: rs) = _
    rw [h5]
    rfl
theorem runComp_filt {α β : Type} {mg : En → D → Option En} {mt : En → Option Bool} {me : En → Option D} {E0 : En} (f : α → D) (g : α → D) (p : α → Bool) : ∀ (xs : List α),
    (∀ x ∈ xs, ∃ E1, mg E0 (f x) = some E1 ∧ mt E1 = some (p x) ∧ (p x = true → me E1 = some (g x))) → runComp mg mt me E0 (xs.map f) = some ((xs.filter p).map g)
  | [], _ => rfl
  | x :: xs, h => by
    obtain ⟨E1, h1, h2, h3⟩ := h x (List.mem_cons_self ..)
    have h5 := runComp_filt (β := β) (mg := mg) (mt := mt) (me := me) (E0 := E0) f g p xs fun z hz => h z (List.mem_cons_of_mem _ hz)
    show (mg E0 (f x)).bind _ = _
    rw [h1]
    show (mt E1).bind _ = _
    rw [h2]
    show (if p x = true then (me E1).bind (fun r => (runComp mg mt me E0 (xs.map f)).map (r :: ·)) else runComp mg mt me E0 (xs.map f)) = _
    by_cases hp : p x = true
    · rw [if_pos hp, h3 hp, List.filter_cons, if_pos hp]
      show (runComp mg mt me E0 (xs.map f)).map (fun rs => g x :: rs) = _
      rw [h5]
      rfl
    · rw [if_neg hp, List.filter_cons, if_neg hp]
      exact h5
theorem Paired.len {α β : Type} {P : α → β → Prop} : ∀ {xs : List α} {ys : List β}, Paired P xs ys → xs.length = ys.length
  | _, _, .nil => rfl
  | _, _, .cons _ t => congrArg Nat.succ (Paired.len t)
theorem Paired.mem {α β : Type} {P : α → β → Prop} : ∀ {xs : List α} {ys : List β} {y : β}, Paired P xs ys → y ∈ ys → ∃ x ∈ xs, P x y
  | _, _, _, .nil, h => by cases h
  | _, _, y, .cons r t, h => by
    rcases List.mem_cons.mp h with e | e
    · subst e
      exact ⟨_, List.mem_cons_self .., r⟩
    · obtain ⟨x, h1, h2⟩ := Paired.mem t e
      exact ⟨x, List.mem_cons_of_mem _ h1, h2⟩
theorem Paired.at {α β : Type} {P : α → β → Prop} : ∀ {xs : List α} {ys : List β} {i : Nat} {x : α} {y : β}, Paired P xs ys → xs[i]? = some x → ys[i]? = some y → P x y
  | _, _, _, _, _, .nil, h, _ => by simp at h
  | _, _, 0, _, _, .cons r t, h, g => by
    simp at h g
    subst h
    subst g
    exact r
  | _, _, i + 1, _, _, .cons r t, h, g => Paired.at (i := i) t (by simpa using h) (by simpa using g)
theorem atI_nat' {α : Type} {xs : List α} {i : Int} (h0 : 0 ≤ i) (h : i < xs.length) : ∃ x, atI xs i = some x ∧ xs[i.toNat]? = some x := by
  have hl : i.toNat < xs.length := by omega
  refine ⟨xs[i.toNat], ?_, List.getElem?_eq_getElem hl⟩
  unfold atI ixN
  rw [if_pos h0, if_pos h]
  exact List.getElem?_eq_getElem hl
theorem atI_mapD {α : Type} {f : α → D} {xs : List α} {i : Int} (h0 : 0 ≤ i) (h : i < xs.length) : ∃ x, atI (xs.map f) i = some (f x) ∧ xs[i.toNat]? = some x := by
  obtain ⟨x, h1, h2⟩ := atI_nat' h0 h
  exact ⟨x, by rw [atI_map, h1]; rfl, h2⟩
theorem range_at {lo : Int} {n j : Nat} {d : D} (h : (rangeD lo n)[j]? = some d) : d = .int (lo + j) ∧ j < n := by
  have hj : j < n := by
    have := (List.getElem?_eq_some_iff.mp h).1
    rwa [rangeD_len] at this
  rw [rangeD_get hj] at h
  exact ⟨(Option.some.inj h).symm, hj⟩
theorem ints_at {ns : List Int} {j : Nat} {d : D} (h : (ns.map D.int)[j]? = some d) : ∃ c, d = .int c ∧ ns[j]? = some c := by
  rw [List.getElem?_map] at h
  obtain ⟨c, h1, rfl⟩ := map_some h
  exact ⟨c, rfl, h1⟩
theorem map_at {α : Type} {f : α → D} {xs : List α} {j : Nat} {d : D} (h : (xs.map f)[j]? = some d) : ∃ x, d = f x ∧ xs[j]? = some x := by
  rw [List.getElem?_map] at h
  obtain ⟨c, h1, rfl⟩ := map_some h
  exact ⟨c, rfl, h1⟩
end Sx

set_option Elab.async false
set_option linter.all false
set_option maxRecDepth 100000
set_option maxHeartbeats 2000000
namespace Sx
open PySem L2
mutual
def okD : D → Bool
  | .str x => PyData.strOk x
  | .lst ds => okDs ds
  | .tup ds => okDs ds
  | _ => true
def okDs : List D → Bool
  | [] => true
  | d :: ds => okD d && okDs ds
end
mutual
def depD : D → Nat
  | .lst ds => depDs ds + 1
  | .tup ds => depDs ds + 1
  | .scr _ => 1
  | _ => 0
def depDs : List D → Nat
  | [] => 0
  | d :: ds => max (depD d) (depDs ds)
end
theorem ints_eqv : ∀ ns : List Int, PyData.eqvAll (ns.map .int) (ns.map .int) = true
  | [] => by rw [List.map_nil, PyData.eqvAll]
  | n :: ns => by rw [List.map_cons, PyData.eqvAll, PyData.eqv, ints_eqv ns]; simp
theorem ints_lay : ∀ ns : List Int, PyData.canLayAll0 (ns.map .int) = true
  | [] => by rw [List.map_nil, PyData.canLayAll0]
  | n :: ns => by rw [List.map_cons, PyData.canLayAll0, PyData.canLay0, ints_lay ns]; rfl
theorem ints_dep : ∀ ns : List Int, PyData.depthAll (ns.map .int) = 0
  | [] => by rw [List.map_nil, PyData.depthAll]
  | n :: ns => by rw [List.map_cons, PyData.depthAll, PyData.depth, ints_dep ns]; rfl
mutual
theorem py_eqv : ∀ d : D, PyData.eqv d.py d.py = true
  | .non => by rw [D.py, PyData.eqv]
  | .bl b => by rw [D.py, PyData.eqv]; simp
  | .int i => by rw [D.py, PyData.eqv]; simp
  | .str x => by rw [D.py, PyData.eqv]; simp
  | .lst ds => by rw [D.py, PyData.eqv]; exact pys_eqv ds
  | .tup ds => by rw [D.py, PyData.eqv]; exact pys_eqv ds
  | .scr ns => by rw [D.py, PyData.eqv]; exact ints_eqv ns
theorem pys_eqv : ∀ ds : List D, PyData.eqvAll (D.pys ds) (D.pys ds) = true
  | [] => by rw [D.pys, PyData.eqvAll]
  | d :: ds => by rw [D.pys, PyData.eqvAll, py_eqv d, pys_eqv ds]; rfl
end
mutual
theorem py_lay : ∀ d : D, okD d = true → PyData.canLay0 d.py = true
  | .non, _ => by rw [D.py, PyData.canLay0]
  | .bl b, _ => by rw [D.py, PyData.canLay0]
  | .int i, _ => by rw [D.py, PyData.canLay0]
  | .str x, h => by rw [okD] at h; rw [D.py, PyData.canLay0]; exact h
  | .lst ds, h => by rw [okD] at h; rw [D.py, PyData.canLay0]; exact pys_lay ds h
  | .tup ds, h => by rw [okD] at h; rw [D.py, PyData.canLay0]; exact pys_lay ds h
  | .scr ns, _ => by rw [D.py, PyData.canLay0]; exact ints_lay ns
theorem pys_lay : ∀ ds : List D, okDs ds = true → PyData.canLayAll0 (D.pys ds) = true
  | [], _ => by rw [D.pys, PyData.canLayAll0]
  | d :: ds, h => by
    rw [okDs] at h
    obtain ⟨h1, h2⟩ := Bool.and_eq_true_iff.mp h
    rw [D.pys, PyData.canLayAll0, py_lay d h1, pys_lay ds h2]
    rfl
end
mutual
theorem py_dep : ∀ d : D, PyData.depth d.py = depD d
  | .non => by rw [D.py, PyData.depth]; rfl
  | .bl b => by rw [D.py, PyData.depth]; rfl
  | .int i => by rw [D.py, PyData.depth]; rfl
  | .str x => by rw [D.py, PyData.depth]; rfl
  | .lst ds => by rw [D.py, PyData.depth, depD, pys_dep ds]
  | .tup ds => by rw [D.py, PyData.depth, depD, pys_dep ds]
  | .scr ns => by rw [D.py, PyData.depth, depD, ints_dep ns]
theorem pys_dep : ∀ ds : List D, PyData.depthAll (D.pys ds) = depDs ds
  | [] => by rw [D.pys, PyData.depthAll, depDs]
  | d :: ds => by rw [D.pys, PyData.depthAll, depDs, py_dep d, pys_dep ds]
end
theorem shaped_of {d : D} (h : okD d = true) (hd : depD d ≤ 64) : SeqAt.shaped d.py = true := by
  unfold SeqAt.shaped
  rw [py_lay d h, py_dep d, decide_eq_true hd]
  rfl
theorem eqB_lst {ds : List D} (h : okDs ds = true) (hd : depDs ds ≤ 60) : eqB (.lst ds) (.lst ds) = some true := by
  have s := shaped_of (d := .lst ds) (by rw [okD]; exact h) (by rw [depD]; omega)
  show (if SeqAt.shaped (D.lst ds).py = true ∧ SeqAt.shaped (D.lst ds).py = true then some (PyData.eqv (D.lst ds).py (D.lst ds).py) else none) = _
  rw [if_pos ⟨s, s⟩, py_eqv]
theorem okDs_map {α : Type} {f : α → D} : ∀ {xs : List α}, (∀ x ∈ xs, okD (f x) = true) → okDs (xs.map f) = true
  | [], _ => by rw [List.map_nil, okDs]
  | x :: xs, h => by
    rw [List.map_cons, okDs, h x (List.mem_cons_self ..), okDs_map fun y hy => h y (List.mem_cons_of_mem _ hy)]
    rfl
theorem depDs_map {α : Type} {f : α → D} {n : Nat} : ∀ {xs : List α}, (∀ x ∈ xs, depD (f x) ≤ n) → depDs (xs.map f) ≤ n
  | [], _ => by rw [List.map_nil, depDs]; omega
  | x :: xs, h => by
    rw [List.map_cons, depDs]
    have := h x (List.mem_cons_self ..)
    have := depDs_map fun y hy => h y (List.mem_cons_of_mem _ hy)
    omega
theorem eqB_map {α : Type} {f : α → D} {xs : List α} (h : ∀ x ∈ xs, okD (f x) = true) (hd : ∀ x ∈ xs, depD (f x) ≤ 60) : eqB (.lst (xs.map f)) (.lst (xs.map f)) = some true := eqB_lst (okDs_map h) (depDs_map hd)
theorem kit_bb : kitB "bool" "bool" = some true := by decide +kernel
theorem kit_ii : kitB "int" "int" = some true := by decide +kernel
theorem kit_ib : kitB "int" "bool" = some false := by decide +kernel
end Sx

set_option Elab.async false
set_option linter.all false
set_option maxRecDepth 100000
set_option maxHeartbeats 2000000
namespace Sx
open PySem PySem.Spec PyProof.Rows L2
open Evl (Ex)
def topS (i : Nat) : Stmt := PySem.Challenge.pw_surelyseen_k04_ways_judged.main.body.getD i (.Pass ⟨0, 0, 0, 0⟩)
section
variable {P : Program} {w : World} {K : PySem.W.Frag} {mg : Str → Option Value} {base : Heap}
abbrev s_step_parts : Stmt := topS 6
abbrev N_step_parts : List Str := ["facts", "step", "fact", "side", "a", "b", "least", "greatest"]
theorem sc_step_parts : FnScope N_step_parts ["facts", "step"] (defScope s_step_parts) := ⟨rfl, rfl, rfl, by decide +kernel, rfl, by decide +kernel, by decide +kernel⟩
def b_step_parts : En → Option Out :=
      (mSeq (mAsg (gTupM 2 (gsCons (gM 2) (gsCons (gM 3) gsNil))) (mVar 1))
      (mSeq (mAsg (gTupM 4 (gsCons (gM 4) (gsCons (gM 5) (gsCons (gM 6) (gsCons (gM 7) gsNil))))) (mBin ixD (mVarT 0) (mVarT 2)))
      (mRet (mIf (fun E => ((mBin eqD (mVarT 3) (mC (.str "high"))) E).bind blOf) (mTup (mCons (mVar 4) (mCons (mVar 5) (mCons (mVar 7) mNil)))) (mTup (mCons (mVar 5) (mCons (mVar 4) (mCons (mUn negD (mVarT 6)) mNil))))))))
def m_step_parts : List D → Option D := callM 2 8 b_step_parts
theorem fn_step_parts {f : Addr} {fd : FuncData} (F : FunD K "step_parts" "step_parts" (defArgs s_step_parts) (defBody s_step_parts) (defScope s_step_parts) [] [] f fd) : FnOk P w K mg base CX0 1 f fd ["facts", "step"] (spD K 2 m_step_parts) :=
  fn_mk (N := N_step_parts) (m := b_step_parts) F sc_step_parts rfl (fun cdv A outer s H E hr =>
      (dss_cons (ds_asg (de_var 1) (dg_tup rfl (dgs_cons (dg_name 2 sc_step_parts.nd) (dgs_cons (dg_name 3 sc_step_parts.nd) dgs_nil))))
      (dss_cons (ds_asg (de_ix (dt_var 0) (dt_var 2)) (dg_tup rfl (dgs_cons (dg_name 4 sc_step_parts.nd) (dgs_cons (dg_name 5 sc_step_parts.nd) (dgs_cons (dg_name 6 sc_step_parts.nd) (dgs_cons (dg_name 7 sc_step_parts.nd) dgs_nil))))))
      (dss_one (ds_ret (DE.t (de_if (db_cmp (op_eqAll hr) od_eq (dt_var 3) (DE.t de_str)) (de_tup (da_cons (de_var 4) (da_cons (de_var 5) (da_cons (de_var 7) da_nil)))) (de_tup (da_cons (de_var 5) (da_cons (de_var 4) (da_cons (de_neg (dt_var 6)) da_nil)))))))))))
theorem bd_step_parts (kV doc pm : Value) (an : Option Addr) (cdv ct : Value) (us : List Value) (hl : us.length = ["facts", "step"].length) : bindArgs (PySem.W.fnOf "step_parts" "step_parts" (defArgs s_step_parts) (defBody s_step_parts) (defScope s_step_parts) .none kV doc pm an cdv ct) ⟨us, []⟩ = pure ((["facts", "step"] : List Str).zip us) := match us, hl with | [_, _], _ => rfl
theorem cal_step_parts (F : Stands K mg "step_parts" s_step_parts) : Cal P w K mg base "step_parts" 1 2 m_step_parts :=
  cal_of F bd_step_parts fun F => fn_step_parts F

abbrev s_way_cost : Stmt := topS 1
abbrev N_way_cost : List Str := ["facts", "way", "step"]
theorem sc_way_cost : FnScope N_way_cost ["facts", "way"] (defScope s_way_cost) := ⟨rfl, rfl, rfl, by decide +kernel, rfl, by decide +kernel, by decide +kernel⟩
def b_way_cost : En → Option Out :=
      (mRet (mUn sumD (mList (mComp [2] (fun E => ((mVarT 1) E).bind lstOf) (gM 2) mYes (mBin ixD (mCall 2 m_step_parts (mCons (mVar 0) (mCons (mVar 2) mNil))) (mC (.int 2)))))))
def m_way_cost : List D → Option D := callM 2 3 b_way_cost
theorem fn_way_cost {f : Addr} {fd : FuncData} (F : FunD K "way_cost" "way_cost" (defArgs s_way_cost) (defBody s_way_cost) (defScope s_way_cost) [] [] f fd) (c_step_parts : Cal P w K mg base "step_parts" 1 2 m_step_parts) (h_sum : mg "sum" = none) : FnOk P w K mg base CX0 2 f fd ["facts", "way"] (spD K 2 m_way_cost) :=
  fn_mk (N := N_way_cost) (m := b_way_cost) F sc_way_cost rfl (fun cdv A outer s H E hr =>
      (dss_one (ds_ret (DE.t (de_sum rfl h_sum (DF.t (df_lc (own := [("step", 2)]) rfl sc_way_cost.nd (dit_list (dt_var 1)) (blkOk_by (N := N_way_cost) (sc := defScope s_way_cost) (by decide +kernel)) (by decide) (fun _ _ _ _ _ => (dg_name 2 sc_way_cost.nd)) (fun _ _ _ _ _ => dts_nil) (fun _ _ _ _ _ => (de_ix (DE.t (de_call c_step_parts (hr.mono (by decide)) (da_cons (de_var 0) (da_cons (de_var 2) da_nil)))) (DE.t de_int))))))))))
theorem bd_way_cost (kV doc pm : Value) (an : Option Addr) (cdv ct : Value) (us : List Value) (hl : us.length = ["facts", "way"].length) : bindArgs (PySem.W.fnOf "way_cost" "way_cost" (defArgs s_way_cost) (defBody s_way_cost) (defScope s_way_cost) .none kV doc pm an cdv ct) ⟨us, []⟩ = pure ((["facts", "way"] : List Str).zip us) := match us, hl with | [_, _], _ => rfl
theorem cal_way_cost (F : Stands K mg "way_cost" s_way_cost) (c_step_parts : Cal P w K mg base "step_parts" 1 2 m_step_parts) (h_sum : mg "sum" = none) : Cal P w K mg base "way_cost" 2 2 m_way_cost :=
  cal_of F bd_way_cost fun F => fn_way_cost F c_step_parts h_sum

abbrev s_step_exists : Stmt := topS 5
abbrev N_step_exists : List Str := ["facts", "step", "fact", "side", "_", "least", "greatest"]
theorem sc_step_exists : FnScope N_step_exists ["facts", "step"] (defScope s_step_exists) := ⟨rfl, rfl, rfl, by decide +kernel, rfl, by decide +kernel, by decide +kernel⟩
def b_step_exists : En → Option Out :=
      (mSeq (mAsg (gTupM 2 (gsCons (gM 2) (gsCons (gM 3) gsNil))) (mVar 1))
      (mSeq (mIfS (mNot (fun E => ((mChain (intOp fun i j => .bl (decide (i ≤ j))) (intOp fun i j => .bl (decide (i < j))) (mC (.int 0)) (mVarT 2) (mUn lenD (mVarT 0))) E).bind blOf)) (mRet (mC (.bl false))) mNext)
      (mSeq (mAsg (gTupM 4 (gsCons (gM 4) (gsCons (gM 4) (gsCons (gM 5) (gsCons (gM 6) gsNil))))) (mBin ixD (mVarT 0) (mVarT 2)))
      (mRet (mOrV (mAndV (mBin eqD (mVarT 3) (mC (.str "high"))) (mUn (fun d => some (.bl (!isN d))) (mVarT 6))) (mAndV (mBin eqD (mVarT 3) (mC (.str "low"))) (mUn (fun d => some (.bl (!isN d))) (mVarT 5))))))))
def m_step_exists : List D → Option D := callM 2 7 b_step_exists
theorem fn_step_exists {f : Addr} {fd : FuncData} (F : FunD K "step_exists" "step_exists" (defArgs s_step_exists) (defBody s_step_exists) (defScope s_step_exists) [] [] f fd) (h_len : mg "len" = none) : FnOk P w K mg base CX0 1 f fd ["facts", "step"] (spD K 2 m_step_exists) :=
  fn_mk (N := N_step_exists) (m := b_step_exists) F sc_step_exists rfl (fun cdv A outer s H E hr =>
      (dss_cons (ds_asg (de_var 1) (dg_tup rfl (dgs_cons (dg_name 2 sc_step_exists.nd) (dgs_cons (dg_name 3 sc_step_exists.nd) dgs_nil))))
      (dss_cons (ds_if (db_not (db_chain op_le od_le op_lt od_lt (DE.t de_int) (dt_var 2) (DE.t (de_len h_len (dt_var 0))))) (dss_one (ds_ret (DE.t de_bl))) dss_nil)
      (dss_cons (ds_asg (de_ix (dt_var 0) (dt_var 2)) (dg_tup rfl (dgs_cons (dg_name 4 sc_step_exists.nd) (dgs_cons (dg_name 4 sc_step_exists.nd) (dgs_cons (dg_name 5 sc_step_exists.nd) (dgs_cons (dg_name 6 sc_step_exists.nd) dgs_nil))))))
      (dss_one (ds_ret (DE.t (de_or (de_and (de_cmp (op_eqAll hr) od_eq (dt_var 3) (DE.t de_str)) (de_one (de_notN (dt_var 6)))) (de_one (de_and (de_cmp (op_eqAll hr) od_eq (dt_var 3) (DE.t de_str)) (de_one (de_notN (dt_var 5)))))))))))))
theorem bd_step_exists (kV doc pm : Value) (an : Option Addr) (cdv ct : Value) (us : List Value) (hl : us.length = ["facts", "step"].length) : bindArgs (PySem.W.fnOf "step_exists" "step_exists" (defArgs s_step_exists) (defBody s_step_exists) (defScope s_step_exists) .none kV doc pm an cdv ct) ⟨us, []⟩ = pure ((["facts", "step"] : List Str).zip us) := match us, hl with | [_, _], _ => rfl
theorem cal_step_exists (F : Stands K mg "step_exists" s_step_exists) (h_len : mg "len" = none) : Cal P w K mg base "step_exists" 1 2 m_step_exists :=
  cal_of F bd_step_exists fun F => fn_step_exists F h_len

abbrev s__points_on : Stmt := topS 7
abbrev N__points_on : List Str := ["facts", "start", "way", "points", "step", "begin", "end", "_"]
theorem sc__points_on : FnScope N__points_on ["facts", "start", "way"] (defScope s__points_on) := ⟨rfl, rfl, rfl, by decide +kernel, rfl, by decide +kernel, by decide +kernel⟩
def b__points_on : En → Option Out :=
      (mSeq (mSetO 3 (mLst (mCons (mVar 1) mNil)))
      (mSeq (mFor (fun E => ((mVar 2) E).bind lstOf) (gM 4) (mSeq (mIfS (mNot (fun E => ((mCall 2 m_step_exists (mCons (mVar 0) (mCons (mVar 4) mNil))) E).bind truD)) (mRet (mC .non)) mNext)
      (mSeq (mAsg (gTupM 3 (gsCons (gM 5) (gsCons (gM 6) (gsCons (gM 7) gsNil)))) (mCall 2 m_step_parts (mCons (mVar 0) (mCons (mVar 4) mNil))))
      (mSeq (mIfS (fun E => ((mBin neD (mVarT 5) (mBin ixD (mVarT 3) (mUn negD (mC (.int 1))))) E).bind blOf) (mRet (mC .non)) mNext)
      (mApp 3 (mVar 6))))))
      (mRetO 3)))
def m__points_on : List D → Option D := callM 3 8 b__points_on
theorem fn__points_on {f : Addr} {fd : FuncData} (F : FunD K "_points_on" "_points_on" (defArgs s__points_on) (defBody s__points_on) (defScope s__points_on) [] [] f fd) (c_step_exists : Cal P w K mg base "step_exists" 1 2 m_step_exists) (c_step_parts : Cal P w K mg base "step_parts" 1 2 m_step_parts) : FnOk P w K mg base CX0 2 f fd ["facts", "start", "way"] (spD K 3 m__points_on) :=
  fn_mk (N := N__points_on) (m := b__points_on) F sc__points_on rfl (fun cdv A outer s H E hr =>
      (dss_cons (ds_setO 3 sc__points_on.nd (df_lst (da_cons (de_var 1) da_nil)))
      (dss_cons (ds_for PassesOwn.never rfl (di_list (de_var 2)) (dg_name 4 sc__points_on.nd) (dss_cons (ds_if (db_not (db_tru (DE.t (de_call c_step_exists (hr.mono (by decide)) (da_cons (de_var 0) (da_cons (de_var 4) da_nil)))))) (dss_one (ds_ret (DE.t de_non))) dss_nil)
      (dss_cons (ds_asg (de_call c_step_parts (hr.mono (by decide)) (da_cons (de_var 0) (da_cons (de_var 4) da_nil))) (dg_tup rfl (dgs_cons (dg_name 5 sc__points_on.nd) (dgs_cons (dg_name 6 sc__points_on.nd) (dgs_cons (dg_name 7 sc__points_on.nd) dgs_nil)))))
      (dss_cons (ds_if (db_cmp (op_neAll hr) od_ne (dt_var 5) (DE.t (de_ix (dt_var 3) (DE.t (de_neg (DE.t de_int)))))) (dss_one (ds_ret (DE.t de_non))) dss_nil)
      (dss_one (ds_app 3 (de_var 6)))))))
      (dss_one (ds_retO 3)))))
theorem bd__points_on (kV doc pm : Value) (an : Option Addr) (cdv ct : Value) (us : List Value) (hl : us.length = ["facts", "start", "way"].length) : bindArgs (PySem.W.fnOf "_points_on" "_points_on" (defArgs s__points_on) (defBody s__points_on) (defScope s__points_on) .none kV doc pm an cdv ct) ⟨us, []⟩ = pure ((["facts", "start", "way"] : List Str).zip us) := match us, hl with | [_, _, _], _ => rfl
theorem cal__points_on (F : Stands K mg "_points_on" s__points_on) (c_step_exists : Cal P w K mg base "step_exists" 1 2 m_step_exists) (c_step_parts : Cal P w K mg base "step_parts" 1 2 m_step_parts) : Cal P w K mg base "_points_on" 2 3 m__points_on :=
  cal_of F bd__points_on fun F => fn__points_on F c_step_exists c_step_parts

abbrev s_is_way : Stmt := topS 2
abbrev N_is_way : List Str := ["facts", "a", "b", "way", "points"]
theorem sc_is_way : FnScope N_is_way ["facts", "a", "b", "way"] (defScope s_is_way) := ⟨rfl, rfl, rfl, by decide +kernel, rfl, by decide +kernel, by decide +kernel⟩
def b_is_way : En → Option Out :=
      (mSeq (mSet 4 (mCall 3 m__points_on (mCons (mVar 0) (mCons (mVar 1) (mCons (mVar 3) mNil)))))
      (mRet (mAndV (mUn (fun d => some (.bl (!isN d))) (mVarT 4)) (mAndV (mBin eqD (mBin ixD (mVarT 4) (mUn negD (mC (.int 1)))) (mVarT 2)) (mBin eqD (mUn lenSetD (mVarT 4)) (mUn lenD (mVarT 4)))))))
def m_is_way : List D → Option D := callM 4 5 b_is_way
theorem fn_is_way {f : Addr} {fd : FuncData} (F : FunD K "is_way" "is_way" (defArgs s_is_way) (defBody s_is_way) (defScope s_is_way) [] [] f fd) (c__points_on : Cal P w K mg base "_points_on" 2 3 m__points_on) (h_len : mg "len" = none) (h_set : mg "set" = none) : FnOk P w K mg base CX0 3 f fd ["facts", "a", "b", "way"] (spD K 4 m_is_way) :=
  fn_mk (N := N_is_way) (m := b_is_way) F sc_is_way rfl (fun cdv A outer s H E hr =>
      (dss_cons (ds_set 4 sc_is_way.nd (de_call c__points_on (hr.mono (by decide)) (da_cons (de_var 0) (da_cons (de_var 1) (da_cons (de_var 3) da_nil)))))
      (dss_one (ds_ret (DE.t (de_and (de_notN (dt_var 4)) (de_and (de_cmp (op_eqAll hr) od_eq (DE.t (de_ix (dt_var 4) (DE.t (de_neg (DE.t de_int))))) (dt_var 2)) (de_one (de_cmp (op_eqAll hr) od_eq (DE.t (de_lenSet rfl h_len h_set (dt_var 4))) (DE.t (de_len h_len (dt_var 4))))))))))))
theorem bd_is_way (kV doc pm : Value) (an : Option Addr) (cdv ct : Value) (us : List Value) (hl : us.length = ["facts", "a", "b", "way"].length) : bindArgs (PySem.W.fnOf "is_way" "is_way" (defArgs s_is_way) (defBody s_is_way) (defScope s_is_way) .none kV doc pm an cdv ct) ⟨us, []⟩ = pure ((["facts", "a", "b", "way"] : List Str).zip us) := match us, hl with | [_, _, _, _], _ => rfl
theorem cal_is_way (F : Stands K mg "is_way" s_is_way) (c__points_on : Cal P w K mg base "_points_on" 2 3 m__points_on) (h_len : mg "len" = none) (h_set : mg "set" = none) : Cal P w K mg base "is_way" 3 4 m_is_way :=
  cal_of F bd_is_way fun F => fn_is_way F c__points_on h_len h_set

abbrev s_is_low_ring : Stmt := topS 3
abbrev N_is_low_ring : List Str := ["facts", "steps", "start", "points"]
theorem sc_is_low_ring : FnScope N_is_low_ring ["facts", "steps"] (defScope s_is_low_ring) := ⟨rfl, rfl, rfl, by decide +kernel, rfl, by decide +kernel, by decide +kernel⟩
def b_is_low_ring : En → Option Out :=
      (mSeq (mIfS (mOr (mNot (fun E => ((mVarT 1) E).bind truD)) (mNot (fun E => ((mCall 2 m_step_exists (mCons (mVar 0) (mCons (mBin ixD (mVarT 1) (mC (.int 0))) mNil))) E).bind truD))) (mRet (mC (.bl false))) mNext)
      (mSeq (mSet 2 (mBin ixD (mCall 2 m_step_parts (mCons (mVar 0) (mCons (mBin ixD (mVarT 1) (mC (.int 0))) mNil))) (mC (.int 0))))
      (mSeq (mSet 3 (mCall 3 m__points_on (mCons (mVar 0) (mCons (mVar 2) (mCons (mVar 1) mNil)))))
      (mSeq (mIfS (mOr (fun E => ((mVarT 3) E).map isN) (mOr (fun E => ((mBin neD (mBin ixD (mVarT 3) (mUn negD (mC (.int 1)))) (mVarT 2)) E).bind blOf) (fun E => ((mBin neD (mUn lenSetD (mVarT 3)) (mUn lenD (mVarT 1))) E).bind blOf))) (mRet (mC (.bl false))) mNext)
      (mRet (mBin (intOp fun i j => .bl (decide (i < j))) (mCall 2 m_way_cost (mCons (mVar 0) (mCons (mVar 1) mNil))) (mC (.int 0))))))))
def m_is_low_ring : List D → Option D := callM 2 4 b_is_low_ring
theorem fn_is_low_ring {f : Addr} {fd : FuncData} (F : FunD K "is_low_ring" "is_low_ring" (defArgs s_is_low_ring) (defBody s_is_low_ring) (defScope s_is_low_ring) [] [] f fd) (c_step_exists : Cal P w K mg base "step_exists" 1 2 m_step_exists) (c_step_parts : Cal P w K mg base "step_parts" 1 2 m_step_parts) (c__points_on : Cal P w K mg base "_points_on" 2 3 m__points_on) (c_way_cost : Cal P w K mg base "way_cost" 2 2 m_way_cost) (h_len : mg "len" = none) (h_set : mg "set" = none) : FnOk P w K mg base CX0 3 f fd ["facts", "steps"] (spD K 2 m_is_low_ring) :=
  fn_mk (N := N_is_low_ring) (m := b_is_low_ring) F sc_is_low_ring rfl (fun cdv A outer s H E hr =>
      (dss_cons (ds_if (DW.toB (dw_or (db_not (db_tru (dt_var 1))) (dw_or1 (db_not (db_tru (DE.t (de_call c_step_exists (hr.mono (by decide)) (da_cons (de_var 0) (da_cons (de_ix (dt_var 1) (DE.t de_int)) da_nil))))))))) (dss_one (ds_ret (DE.t de_bl))) dss_nil)
      (dss_cons (ds_set 2 sc_is_low_ring.nd (de_ix (DE.t (de_call c_step_parts (hr.mono (by decide)) (da_cons (de_var 0) (da_cons (de_ix (dt_var 1) (DE.t de_int)) da_nil)))) (DE.t de_int)))
      (dss_cons (ds_set 3 sc_is_low_ring.nd (de_call c__points_on (hr.mono (by decide)) (da_cons (de_var 0) (da_cons (de_var 2) (da_cons (de_var 1) da_nil)))))
      (dss_cons (ds_if (DW.toB (dw_or (db_isN (dt_var 3)) (dw_or (db_cmp (op_neAll hr) od_ne (DE.t (de_ix (dt_var 3) (DE.t (de_neg (DE.t de_int))))) (dt_var 2)) (dw_or1 (db_cmp (op_neAll hr) od_ne (DE.t (de_lenSet rfl h_len h_set (dt_var 3))) (DE.t (de_len h_len (dt_var 1)))))))) (dss_one (ds_ret (DE.t de_bl))) dss_nil)
      (dss_one (ds_ret (DE.t (de_cmp op_lt od_lt (DE.t (de_call c_way_cost (hr.mono (by decide)) (da_cons (de_var 0) (da_cons (de_var 1) da_nil)))) (DE.t de_int))))))))))
theorem bd_is_low_ring (kV doc pm : Value) (an : Option Addr) (cdv ct : Value) (us : List Value) (hl : us.length = ["facts", "steps"].length) : bindArgs (PySem.W.fnOf "is_low_ring" "is_low_ring" (defArgs s_is_low_ring) (defBody s_is_low_ring) (defScope s_is_low_ring) .none kV doc pm an cdv ct) ⟨us, []⟩ = pure ((["facts", "steps"] : List Str).zip us) := match us, hl with | [_, _], _ => rfl
theorem cal_is_low_ring (F : Stands K mg "is_low_ring" s_is_low_ring) (c_step_exists : Cal P w K mg base "step_exists" 1 2 m_step_exists) (c_step_parts : Cal P w K mg base "step_parts" 1 2 m_step_parts) (c__points_on : Cal P w K mg base "_points_on" 2 3 m__points_on) (c_way_cost : Cal P w K mg base "way_cost" 2 2 m_way_cost) (h_len : mg "len" = none) (h_set : mg "set" = none) : Cal P w K mg base "is_low_ring" 3 2 m_is_low_ring :=
  cal_of F bd_is_low_ring fun F => fn_is_low_ring F c_step_exists c_step_parts c__points_on c_way_cost h_len h_set

abbrev s_fits_facts : Stmt := topS 4
abbrev N_fits_facts : List Str := ["facts", "heights", "a", "b", "least", "greatest", "rise"]
theorem sc_fits_facts : FnScope N_fits_facts ["facts", "heights"] (defScope s_fits_facts) := ⟨rfl, rfl, rfl, by decide +kernel, rfl, by decide +kernel, by decide +kernel⟩
def b_fits_facts : En → Option Out :=
      (mSeq (mFor (fun E => ((mVar 0) E).bind lstOf) (gTupM 4 (gsCons (gM 2) (gsCons (gM 3) (gsCons (gM 4) (gsCons (gM 5) gsNil))))) (mSeq (mSet 6 (mBin (intOp fun i j => .int (i - j)) (mBin ixD (mVarT 1) (mVarT 3)) (mBin ixD (mVarT 1) (mVarT 2))))
      (mSeq (mIfS (mAnd (fun E => ((mVarT 4) E).map (fun d => !isN d)) (fun E => ((mBin (intOp fun i j => .bl (decide (i < j))) (mVarT 6) (mVarT 4)) E).bind blOf)) (mRet (mC (.bl false))) mNext)
      (mIfS (mAnd (fun E => ((mVarT 5) E).map (fun d => !isN d)) (fun E => ((mBin (intOp fun i j => .bl (decide (j < i))) (mVarT 6) (mVarT 5)) E).bind blOf)) (mRet (mC (.bl false))) mNext))))
      (mRet (mC (.bl true))))
def m_fits_facts : List D → Option D := callM 2 7 b_fits_facts
theorem fn_fits_facts {f : Addr} {fd : FuncData} (F : FunD K "fits_facts" "fits_facts" (defArgs s_fits_facts) (defBody s_fits_facts) (defScope s_fits_facts) [] [] f fd) : FnOk P w K mg base CX0 1 f fd ["facts", "heights"] (spD K 2 m_fits_facts) :=
  fn_mk (N := N_fits_facts) (m := b_fits_facts) F sc_fits_facts rfl (fun cdv A outer s H E hr =>
      (dss_cons (ds_for PassesOwn.never rfl (di_list (de_var 0)) (dg_tup rfl (dgs_cons (dg_name 2 sc_fits_facts.nd) (dgs_cons (dg_name 3 sc_fits_facts.nd) (dgs_cons (dg_name 4 sc_fits_facts.nd) (dgs_cons (dg_name 5 sc_fits_facts.nd) dgs_nil))))) (dss_cons (ds_set 6 sc_fits_facts.nd (de_sub (DE.t (de_ix (dt_var 1) (dt_var 3))) (DE.t (de_ix (dt_var 1) (dt_var 2)))))
      (dss_cons (ds_if (DW.toB (dw_and (db_notN (dt_var 4)) (dw_and1 (db_cmp op_lt od_lt (dt_var 6) (dt_var 4))))) (dss_one (ds_ret (DE.t de_bl))) dss_nil)
      (dss_one (ds_if (DW.toB (dw_and (db_notN (dt_var 5)) (dw_and1 (db_cmp op_gt od_gt (dt_var 6) (dt_var 5))))) (dss_one (ds_ret (DE.t de_bl))) dss_nil)))))
      (dss_one (ds_ret (DE.t de_bl)))))
theorem bd_fits_facts (kV doc pm : Value) (an : Option Addr) (cdv ct : Value) (us : List Value) (hl : us.length = ["facts", "heights"].length) : bindArgs (PySem.W.fnOf "fits_facts" "fits_facts" (defArgs s_fits_facts) (defBody s_fits_facts) (defScope s_fits_facts) .none kV doc pm an cdv ct) ⟨us, []⟩ = pure ((["facts", "heights"] : List Str).zip us) := match us, hl with | [_, _], _ => rfl
theorem cal_fits_facts (F : Stands K mg "fits_facts" s_fits_facts) : Cal P w K mg base "fits_facts" 1 2 m_fits_facts :=
  cal_of F bd_fits_facts fun F => fn_fits_facts F

abbrev s__law_cell : Stmt := topS 9
abbrev N__law_cell : List Str := ["script", "at", "mixed", "cell"]
theorem sc__law_cell : FnScope N__law_cell ["script", "at"] (defScope s__law_cell) := ⟨rfl, rfl, rfl, by decide +kernel, rfl, by decide +kernel, by decide +kernel⟩
def b__law_cell : En → Option Out :=
      (mSeq (mIfS (fun E => ((mBin (intOp fun i j => .bl (decide (i < j))) (mVarT 1) (mUn lenD (mVarT 0))) E).bind blOf) (mRet (mUn intD (mBin ixD (mVarT 0) (mVarT 1)))) mNext)
      (mSeq (mSet 2 (mBin addD (mC (.int 11)) (mBin (intOpC mulOk fun i j => .int (i * j)) (mC (.int 101)) (mVarT 1))))
      (mSeq (mFor (fun E => ((mVar 0) E).bind lstOf) (gM 3) (mSet 2 (mBin (intOpC (fun _ j => decide (0 < j)) fun i j => .int (i % j)) (mUn intD (mBin addD (mBin (intOpC mulOk fun i j => .int (i * j)) (mVarT 2) (mC (.int 31))) (mVarT 3))) (mC (.int 1000000007)))))
      (mRet (mVarT 2)))))
def m__law_cell : List D → Option D := callM 2 4 b__law_cell
theorem fn__law_cell {f : Addr} {fd : FuncData} (F : FunD K "_law_cell" "_law_cell" (defArgs s__law_cell) (defBody s__law_cell) (defScope s__law_cell) [] [] f fd) (h_len : mg "len" = none) (h_int : mg "int" = none) : FnOk P w K mg base CX0 1 f fd ["script", "at"] (spD K 2 m__law_cell) :=
  fn_mk (N := N__law_cell) (m := b__law_cell) F sc__law_cell rfl (fun cdv A outer s H E hr =>
      (dss_cons (ds_if (db_cmp op_lt od_lt (dt_var 1) (DE.t (de_len h_len (dt_var 0)))) (dss_one (ds_ret (DE.t (de_int1 h_int (DE.t (de_ix (dt_var 0) (dt_var 1))))))) dss_nil)
      (dss_cons (ds_set 2 sc__law_cell.nd (de_add (DE.t de_int) (DE.t (de_mul (DE.t de_int) (dt_var 1)))))
      (dss_cons (ds_for PassesOwn.never rfl (di_list (de_var 0)) (dg_name 3 sc__law_cell.nd) (dss_one (ds_set 2 sc__law_cell.nd (de_mod (DE.t (de_int1 h_int (DE.t (de_add (DE.t (de_mul (dt_var 2) (DE.t de_int))) (dt_var 3))))) (DE.t de_int)))))
      (dss_one (ds_ret (dt_var 2)))))))
theorem bd__law_cell (kV doc pm : Value) (an : Option Addr) (cdv ct : Value) (us : List Value) (hl : us.length = ["script", "at"].length) : bindArgs (PySem.W.fnOf "_law_cell" "_law_cell" (defArgs s__law_cell) (defBody s__law_cell) (defScope s__law_cell) .none kV doc pm an cdv ct) ⟨us, []⟩ = pure ((["script", "at"] : List Str).zip us) := match us, hl with | [_, _], _ => rfl
theorem cal__law_cell (F : Stands K mg "_law_cell" s__law_cell) (h_len : mg "len" = none) (h_int : mg "int" = none) : Cal P w K mg base "_law_cell" 1 2 m__law_cell :=
  cal_of F bd__law_cell fun F => fn__law_cell F h_len h_int

abbrev s__law_draw : Stmt := topS 10
abbrev N__law_draw : List Str := ["script", "at", "k", "size", "cell", "mixed", "rest", "turn"]
theorem sc__law_draw : FnScope N__law_draw ["script", "at", "k", "size"] (defScope s__law_draw) := ⟨rfl, rfl, rfl, by decide +kernel, rfl, by decide +kernel, by decide +kernel⟩
def b__law_draw : En → Option Out :=
      (mSeq (mSet 4 (mCall 2 m__law_cell (mCons (mVar 0) (mCons (mVar 1) mNil))))
      (mSeq (mIfS (fun E => ((mBin (intOp fun i j => .bl (decide (j ≤ i))) (mVarT 4) (mBin (intOpC powOk fun i j => .int (i ^ j.toNat)) (mC (.int 10)) (mC (.int 18)))) E).bind blOf) (mSeq (mSet 6 (mVar 4))
      (mSeq (mFor (fun E => ((mVarT 2) E).bind rg1) (gM 7) (mSet 6 (mBin (intOpC divOk fun i j => .int (i / j)) (mVarT 6) (mC (.int 1000003)))))
      (mIfS (fun E => ((mBin (intOp fun i j => .bl (decide (j < i))) (mVarT 6) (mC (.int 0))) E).bind blOf) (mRet (mBin (intOpC (fun _ j => decide (0 < j)) fun i j => .int (i % j)) (mBin (intOpC (fun _ j => decide (0 < j)) fun i j => .int (i % j)) (mUn intD (mVarT 6)) (mC (.int 1000003))) (mVarT 3))) mNext))) mNext)
      (mSeq (mSet 5 (mBin (intOpC (fun _ j => decide (0 < j)) fun i j => .int (i % j)) (mUn intD (mBin addD (mBin addD (mVarT 4) (mBin (intOpC mulOk fun i j => .int (i * j)) (mC (.int 7919)) (mVarT 2))) (mC (.int 13)))) (mC (.int 2147483647))))
      (mSeq (mSet 5 (mBin (intOpC (fun _ j => decide (0 < j)) fun i j => .int (i % j)) (mUn intD (mBin (intOpC mulOk fun i j => .int (i * j)) (mVarT 5) (mBin addD (mVarT 5) (mC (.int 48271))))) (mC (.int 2147483629))))
      (mSeq (mSet 5 (mBin (intOpC (fun _ j => decide (0 < j)) fun i j => .int (i % j)) (mUn intD (mBin addD (mBin (intOpC mulOk fun i j => .int (i * j)) (mVarT 5) (mBin addD (mVarT 5) (mC (.int 69621)))) (mBin (intOpC mulOk fun i j => .int (i * j)) (mC (.int 31)) (mVarT 2)))) (mC (.int 2147483647))))
      (mRet (mBin (intOpC (fun _ j => decide (0 < j)) fun i j => .int (i % j)) (mUn intD (mBin (intOpC divOk fun i j => .int (i / j)) (mVarT 5) (mC (.int 9)))) (mVarT 3))))))))
def m__law_draw : List D → Option D := callM 4 8 b__law_draw
theorem fn__law_draw {f : Addr} {fd : FuncData} (F : FunD K "_law_draw" "_law_draw" (defArgs s__law_draw) (defBody s__law_draw) (defScope s__law_draw) [] [] f fd) (c__law_cell : Cal P w K mg base "_law_cell" 1 2 m__law_cell) (h_range : mg "range" = none) (h_int : mg "int" = none) : FnOk P w K mg base CX0 2 f fd ["script", "at", "k", "size"] (spD K 4 m__law_draw) :=
  fn_mk (N := N__law_draw) (m := b__law_draw) F sc__law_draw rfl (fun cdv A outer s H E hr =>
      (dss_cons (ds_set 4 sc__law_draw.nd (de_call c__law_cell (hr.mono (by decide)) (da_cons (de_var 0) (da_cons (de_var 1) da_nil))))
      (dss_cons (ds_if (db_cmp op_ge od_ge (dt_var 4) (DE.t (de_pow (DE.t de_int) (DE.t de_int)))) (dss_cons (ds_set 6 sc__law_draw.nd (de_var 4))
      (dss_cons (ds_for PassesOwn.never rfl (di_range1 h_range (dt_var 2)) (dg_name 7 sc__law_draw.nd) (dss_one (ds_set 6 sc__law_draw.nd (de_fdiv (dt_var 6) (DE.t de_int)))))
      (dss_one (ds_if (db_cmp op_gt od_gt (dt_var 6) (DE.t de_int)) (dss_one (ds_ret (DE.t (de_mod (DE.t (de_mod (DE.t (de_int1 h_int (dt_var 6))) (DE.t de_int))) (dt_var 3))))) dss_nil)))) dss_nil)
      (dss_cons (ds_set 5 sc__law_draw.nd (de_mod (DE.t (de_int1 h_int (DE.t (de_add (DE.t (de_add (dt_var 4) (DE.t (de_mul (DE.t de_int) (dt_var 2))))) (DE.t de_int))))) (DE.t de_int)))
      (dss_cons (ds_set 5 sc__law_draw.nd (de_mod (DE.t (de_int1 h_int (DE.t (de_mul (dt_var 5) (DE.t (de_add (dt_var 5) (DE.t de_int))))))) (DE.t de_int)))
      (dss_cons (ds_set 5 sc__law_draw.nd (de_mod (DE.t (de_int1 h_int (DE.t (de_add (DE.t (de_mul (dt_var 5) (DE.t (de_add (dt_var 5) (DE.t de_int))))) (DE.t (de_mul (DE.t de_int) (dt_var 2))))))) (DE.t de_int)))
      (dss_one (ds_ret (DE.t (de_mod (DE.t (de_int1 h_int (DE.t (de_fdiv (dt_var 5) (DE.t de_int))))) (dt_var 3)))))))))))
theorem bd__law_draw (kV doc pm : Value) (an : Option Addr) (cdv ct : Value) (us : List Value) (hl : us.length = ["script", "at", "k", "size"].length) : bindArgs (PySem.W.fnOf "_law_draw" "_law_draw" (defArgs s__law_draw) (defBody s__law_draw) (defScope s__law_draw) .none kV doc pm an cdv ct) ⟨us, []⟩ = pure ((["script", "at", "k", "size"] : List Str).zip us) := match us, hl with | [_, _, _, _], _ => rfl
theorem cal__law_draw (F : Stands K mg "_law_draw" s__law_draw) (c__law_cell : Cal P w K mg base "_law_cell" 1 2 m__law_cell) (h_range : mg "range" = none) (h_int : mg "int" = none) : Cal P w K mg base "_law_draw" 2 4 m__law_draw :=
  cal_of F bd__law_draw fun F => fn__law_draw F c__law_cell h_range h_int

abbrev s__law_digits : Stmt := topS 11
abbrev N__law_digits : List Str := ["script", "at", "count", "digits", "mixed", "k"]
theorem sc__law_digits : FnScope N__law_digits ["script", "at", "count"] (defScope s__law_digits) := ⟨rfl, rfl, rfl, by decide +kernel, rfl, by decide +kernel, by decide +kernel⟩
def b__law_digits : En → Option Out :=
      (mSeq (mSetO 3 (mComp [5] (fun E => ((mBin minD (mVarT 2) (mC (.int 24))) E).bind rg1) (gM 5) mYes (mCall 4 m__law_draw (mCons (mVar 0) (mCons (mVar 1) (mCons (mVar 5) (mCons (mC (.int 1000003)) mNil)))))))
      (mSeq (mSet 4 (mCall 4 m__law_draw (mCons (mVar 0) (mCons (mVar 1) (mCons (mC (.int 40)) (mCons (mC (.int 1000003)) mNil))))))
      (mSeq (mFor (fun E => ((mC (.int 24)) E).bind fun x => ((mVarT 2) E).bind fun y => rg2 x y) (gM 5) (mSeq (mSet 4 (mBin (intOpC (fun _ j => decide (0 < j)) fun i j => .int (i % j)) (mUn intD (mBin addD (mBin addD (mBin (intOpC mulOk fun i j => .int (i * j)) (mVarT 4) (mC (.int 48271))) (mBin (intOpC mulOk fun i j => .int (i * j)) (mC (.int 7919)) (mVarT 5))) (mC (.int 11)))) (mC (.int 2147483647))))
      (mApp 3 (mUn intD (mBin (intOpC divOk fun i j => .int (i / j)) (mVarT 4) (mC (.int 9)))))))
      (mRetO 3))))
def m__law_digits : List D → Option D := callM 3 6 b__law_digits
theorem fn__law_digits {f : Addr} {fd : FuncData} (F : FunD K "_law_digits" "_law_digits" (defArgs s__law_digits) (defBody s__law_digits) (defScope s__law_digits) [] [] f fd) (c__law_draw : Cal P w K mg base "_law_draw" 2 4 m__law_draw) (h_min : mg "min" = none) (h_range : mg "range" = none) (h_int : mg "int" = none) : FnOk P w K mg base CX0 3 f fd ["script", "at", "count"] (spD K 3 m__law_digits) :=
  fn_mk (N := N__law_digits) (m := b__law_digits) F sc__law_digits rfl (fun cdv A outer s H E hr =>
      (dss_cons (ds_setLc 3 (own := [("k", 5)]) rfl sc__law_digits.nd (DI.t (di_range1 h_range (DE.t (de_min2 rfl h_min (dt_var 2) (DE.t de_int))))) (blkOk_by (N := N__law_digits) (sc := defScope s__law_digits) (by decide +kernel)) (by decide) (fun _ _ _ _ _ => (dg_name 5 sc__law_digits.nd)) (fun _ _ _ _ _ => dts_nil) (fun _ _ _ _ _ => (de_call c__law_draw (hr.mono (by decide)) (da_cons (de_var 0) (da_cons (de_var 1) (da_cons (de_var 5) (da_cons de_int da_nil)))))) (sw_true rfl rfl rfl (by decide +kernel)))
      (dss_cons (ds_set 4 sc__law_digits.nd (de_call c__law_draw (hr.mono (by decide)) (da_cons (de_var 0) (da_cons (de_var 1) (da_cons de_int (da_cons de_int da_nil))))))
      (dss_cons (ds_for PassesOwn.never rfl (di_range2 h_range (DE.t de_int) (dt_var 2)) (dg_name 5 sc__law_digits.nd) (dss_cons (ds_set 4 sc__law_digits.nd (de_mod (DE.t (de_int1 h_int (DE.t (de_add (DE.t (de_add (DE.t (de_mul (dt_var 4) (DE.t de_int))) (DE.t (de_mul (DE.t de_int) (dt_var 5))))) (DE.t de_int))))) (DE.t de_int)))
      (dss_one (ds_app 3 (de_int1 h_int (DE.t (de_fdiv (dt_var 4) (DE.t de_int))))))))
      (dss_one (ds_retO 3))))))
theorem bd__law_digits (kV doc pm : Value) (an : Option Addr) (cdv ct : Value) (us : List Value) (hl : us.length = ["script", "at", "count"].length) : bindArgs (PySem.W.fnOf "_law_digits" "_law_digits" (defArgs s__law_digits) (defBody s__law_digits) (defScope s__law_digits) .none kV doc pm an cdv ct) ⟨us, []⟩ = pure ((["script", "at", "count"] : List Str).zip us) := match us, hl with | [_, _, _], _ => rfl
theorem cal__law_digits (F : Stands K mg "_law_digits" s__law_digits) (c__law_draw : Cal P w K mg base "_law_draw" 2 4 m__law_draw) (h_min : mg "min" = none) (h_range : mg "range" = none) (h_int : mg "int" = none) : Cal P w K mg base "_law_digits" 3 3 m__law_digits :=
  cal_of F bd__law_digits fun F => fn__law_digits F c__law_draw h_min h_range h_int

abbrev s__law_order : Stmt := topS 12
abbrev N__law_order : List Str := ["script", "at", "count", "digits", "order", "k"]
theorem sc__law_order : FnScope N__law_order ["script", "at", "count"] (defScope s__law_order) := ⟨rfl, rfl, rfl, by decide +kernel, rfl, by decide +kernel, by decide +kernel⟩
def b__law_order : En → Option Out :=
      (mSeq (mSet 3 (mCall 3 m__law_digits (mCons (mVar 0) (mCons (mVar 1) (mCons (mVar 2) mNil)))))
      (mSeq (mSetO 4 (mLst mNil))
      (mSeq (mFor (fun E => ((mVarT 2) E).bind rg1) (gM 5) (mIns 4 (mBin (intOpC (fun _ j => decide (0 < j)) fun i j => .int (i % j)) (mUn intD (mBin ixD (mVarT 3) (mVarT 5))) (mBin addD (mVarT 5) (mC (.int 1)))) (mVar 5)))
      (mRetO 4))))
def m__law_order : List D → Option D := callM 3 6 b__law_order
theorem fn__law_order {f : Addr} {fd : FuncData} (F : FunD K "_law_order" "_law_order" (defArgs s__law_order) (defBody s__law_order) (defScope s__law_order) [] [] f fd) (c__law_digits : Cal P w K mg base "_law_digits" 3 3 m__law_digits) (h_range : mg "range" = none) (h_int : mg "int" = none) : FnOk P w K mg base CX0 4 f fd ["script", "at", "count"] (spD K 3 m__law_order) :=
  fn_mk (N := N__law_order) (m := b__law_order) F sc__law_order rfl (fun cdv A outer s H E hr =>
      (dss_cons (ds_set 3 sc__law_order.nd (de_call c__law_digits (hr.mono (by decide)) (da_cons (de_var 0) (da_cons (de_var 1) (da_cons (de_var 2) da_nil)))))
      (dss_cons (ds_setO 4 sc__law_order.nd (df_lst da_nil))
      (dss_cons (ds_for PassesOwn.never rfl (di_range1 h_range (dt_var 2)) (dg_name 5 sc__law_order.nd) (dss_one (ds_ins 4 (de_mod (DE.t (de_int1 h_int (DE.t (de_ix (dt_var 3) (dt_var 5))))) (DE.t (de_add (dt_var 5) (DE.t de_int)))) (de_var 5))))
      (dss_one (ds_retO 4))))))
theorem bd__law_order (kV doc pm : Value) (an : Option Addr) (cdv ct : Value) (us : List Value) (hl : us.length = ["script", "at", "count"].length) : bindArgs (PySem.W.fnOf "_law_order" "_law_order" (defArgs s__law_order) (defBody s__law_order) (defScope s__law_order) .none kV doc pm an cdv ct) ⟨us, []⟩ = pure ((["script", "at", "count"] : List Str).zip us) := match us, hl with | [_, _, _], _ => rfl
theorem cal__law_order (F : Stands K mg "_law_order" s__law_order) (c__law_digits : Cal P w K mg base "_law_digits" 3 3 m__law_digits) (h_range : mg "range" = none) (h_int : mg "int" = none) : Cal P w K mg base "_law_order" 4 3 m__law_order :=
  cal_of F bd__law_order fun F => fn__law_order F c__law_digits h_range h_int

abbrev s__law_bound : Stmt := topS 13
abbrev N__law_bound : List Str := ["digit", "scale"]
theorem sc__law_bound : FnScope N__law_bound ["digit", "scale"] (defScope s__law_bound) := ⟨rfl, rfl, rfl, by decide +kernel, rfl, by decide +kernel, by decide +kernel⟩
def b__law_bound : En → Option Out :=
      (mSeq (mIfS (fun E => ((mBin eqD (mBin (intOpC (fun _ j => decide (0 < j)) fun i j => .int (i % j)) (mUn intD (mVarT 0)) (mC (.int 4))) (mC (.int 0))) E).bind blOf) (mRet (mC .non)) mNext)
      (mSeq (mIfS (fun E => ((mBin eqD (mBin (intOpC (fun _ j => decide (0 < j)) fun i j => .int (i % j)) (mUn intD (mVarT 0)) (mC (.int 32))) (mC (.int 1))) E).bind blOf) (mRet (mC (.int 999999999999))) mNext)
      (mSeq (mIfS (fun E => ((mBin eqD (mBin (intOpC (fun _ j => decide (0 < j)) fun i j => .int (i % j)) (mUn intD (mVarT 0)) (mC (.int 32))) (mC (.int 2))) E).bind blOf) (mRet (mBin (intOp fun i j => .int (i - j)) (mC (.int 1)) (mBin (intOpC powOk fun i j => .int (i ^ j.toNat)) (mC (.int 10)) (mC (.int 12))))) mNext)
      (mRet (mBin (intOpC mulOk fun i j => .int (i * j)) (mBin (intOp fun i j => .int (i - j)) (mBin (intOpC (fun _ j => decide (0 < j)) fun i j => .int (i % j)) (mUn intD (mBin (intOpC divOk fun i j => .int (i / j)) (mVarT 0) (mC (.int 32)))) (mC (.int 19))) (mC (.int 9))) (mVarT 1))))))
def m__law_bound : List D → Option D := callM 2 2 b__law_bound
theorem fn__law_bound {f : Addr} {fd : FuncData} (F : FunD K "_law_bound" "_law_bound" (defArgs s__law_bound) (defBody s__law_bound) (defScope s__law_bound) [] [] f fd) (h_int : mg "int" = none) : FnOk P w K mg base CX0 1 f fd ["digit", "scale"] (spD K 2 m__law_bound) :=
  fn_mk (N := N__law_bound) (m := b__law_bound) F sc__law_bound rfl (fun cdv A outer s H E hr =>
      (dss_cons (ds_if (db_cmp (op_eqAll hr) od_eq (DE.t (de_mod (DE.t (de_int1 h_int (dt_var 0))) (DE.t de_int))) (DE.t de_int)) (dss_one (ds_ret (DE.t de_non))) dss_nil)
      (dss_cons (ds_if (db_cmp (op_eqAll hr) od_eq (DE.t (de_mod (DE.t (de_int1 h_int (dt_var 0))) (DE.t de_int))) (DE.t de_int)) (dss_one (ds_ret (DE.t de_int))) dss_nil)
      (dss_cons (ds_if (db_cmp (op_eqAll hr) od_eq (DE.t (de_mod (DE.t (de_int1 h_int (dt_var 0))) (DE.t de_int))) (DE.t de_int)) (dss_one (ds_ret (DE.t (de_sub (DE.t de_int) (DE.t (de_pow (DE.t de_int) (DE.t de_int))))))) dss_nil)
      (dss_one (ds_ret (DE.t (de_mul (DE.t (de_sub (DE.t (de_mod (DE.t (de_int1 h_int (DE.t (de_fdiv (dt_var 0) (DE.t de_int))))) (DE.t de_int))) (DE.t de_int))) (dt_var 1)))))))))
theorem bd__law_bound (kV doc pm : Value) (an : Option Addr) (cdv ct : Value) (us : List Value) (hl : us.length = ["digit", "scale"].length) : bindArgs (PySem.W.fnOf "_law_bound" "_law_bound" (defArgs s__law_bound) (defBody s__law_bound) (defScope s__law_bound) .none kV doc pm an cdv ct) ⟨us, []⟩ = pure ((["digit", "scale"] : List Str).zip us) := match us, hl with | [_, _], _ => rfl
theorem cal__law_bound (F : Stands K mg "_law_bound" s__law_bound) (h_int : mg "int" = none) : Cal P w K mg base "_law_bound" 1 2 m__law_bound :=
  cal_of F bd__law_bound fun F => fn__law_bound F h_int

abbrev s__law_ring_facts : Stmt := topS 14
abbrev N__law_ring_facts : List Str := ["script", "order", "width", "scale", "digits", "goal", "planned", "j", "start", "end", "cost", "beside"]
theorem sc__law_ring_facts : FnScope N__law_ring_facts ["script", "order", "width", "scale"] (defScope s__law_ring_facts) := ⟨rfl, rfl, rfl, by decide +kernel, rfl, by decide +kernel, by decide +kernel⟩
def b__law_ring_facts : En → Option Out :=
      (mSeq (mSet 4 (mCall 3 m__law_digits (mCons (mVar 0) (mCons (mC (.int 3)) (mCons (mBin (intOpC mulOk fun i j => .int (i * j)) (mC (.int 3)) (mVarT 2)) mNil)))))
      (mSeq (mSet 5 (mBin ixD (mList (mLst (mCons (mUn negD (mC (.int 1))) (mCons (mUn negD (mC (.int 1))) (mCons (mC (.int 0)) (mCons (mC (.int 1)) (mCons (mBin (intOp fun i j => .int (i - j)) (mUn negD (mC (.int 1))) (mBin (intOpC (fun _ j => decide (0 < j)) fun i j => .int (i % j)) (mUn intD (mBin ixD (mVarT 4) (mC (.int 0)))) (mC (.int 99)))) mNil))))))) (mCall 4 m__law_draw (mCons (mVar 0) (mCons (mC (.int 4)) (mCons (mC (.int 0)) (mCons (mC (.int 5)) mNil)))))))
      (mSeq (mSetO 6 (mLst mNil))
      (mSeq (mFor (fun E => ((mVarT 2) E).bind rg1) (gM 7) (mSeq (mSet 8 (mBin ixD (mVarT 1) (mVarT 7)))
      (mSeq (mSet 9 (mBin ixD (mVarT 1) (mBin (intOpC (fun _ j => decide (0 < j)) fun i j => .int (i % j)) (mUn intD (mBin addD (mVarT 7) (mC (.int 1)))) (mVarT 2))))
      (mSeq (mSet 10 (mBin (intOpC mulOk fun i j => .int (i * j)) (mBin (intOp fun i j => .int (i - j)) (mBin (intOpC (fun _ j => decide (0 < j)) fun i j => .int (i % j)) (mUn intD (mBin ixD (mVarT 4) (mBin (intOpC mulOk fun i j => .int (i * j)) (mC (.int 3)) (mVarT 7)))) (mC (.int 19))) (mC (.int 9))) (mVarT 3)))
      (mSeq (mIfS (fun E => ((mBin eqD (mVarT 7) (mBin (intOp fun i j => .int (i - j)) (mVarT 2) (mC (.int 1)))) E).bind blOf) (mSet 10 (mVar 5)) mNext)
      (mSeq (mSet 5 (mBin (intOp fun i j => .int (i - j)) (mVarT 5) (mVarT 10)))
      (mSeq (mSet 11 (mCall 2 m__law_bound (mCons (mBin ixD (mVarT 4) (mBin addD (mBin (intOpC mulOk fun i j => .int (i * j)) (mC (.int 3)) (mVarT 7)) (mC (.int 1)))) (mCons (mVar 3) mNil))))
      (mIfS (fun E => ((mBin eqD (mBin (intOpC (fun _ j => decide (0 < j)) fun i j => .int (i % j)) (mUn intD (mBin ixD (mVarT 4) (mBin addD (mBin (intOpC mulOk fun i j => .int (i * j)) (mC (.int 3)) (mVarT 7)) (mC (.int 2))))) (mC (.int 2))) (mC (.int 0))) E).bind blOf) (mApp 6 (mTup (mCons (mTup (mCons (mVar 8) (mCons (mVar 9) (mCons (mVar 11) (mCons (mVar 10) mNil))))) (mCons (mC (.str "high")) mNil)))) (mApp 6 (mTup (mCons (mTup (mCons (mVar 9) (mCons (mVar 8) (mCons (mBin (intOp fun i j => .int (i - j)) (mC (.int 0)) (mVarT 10)) (mCons (mVar 11) mNil))))) (mCons (mC (.str "low")) mNil))))))))))))
      (mRetO 6)))))
def m__law_ring_facts : List D → Option D := callM 4 12 b__law_ring_facts
theorem fn__law_ring_facts {f : Addr} {fd : FuncData} (F : FunD K "_law_ring_facts" "_law_ring_facts" (defArgs s__law_ring_facts) (defBody s__law_ring_facts) (defScope s__law_ring_facts) [] [] f fd) (c__law_digits : Cal P w K mg base "_law_digits" 3 3 m__law_digits) (c__law_draw : Cal P w K mg base "_law_draw" 2 4 m__law_draw) (c__law_bound : Cal P w K mg base "_law_bound" 1 2 m__law_bound) (h_int : mg "int" = none) (h_range : mg "range" = none) : FnOk P w K mg base CX0 4 f fd ["script", "order", "width", "scale"] (spD K 4 m__law_ring_facts) :=
  fn_mk (N := N__law_ring_facts) (m := b__law_ring_facts) F sc__law_ring_facts rfl (fun cdv A outer s H E hr =>
      (dss_cons (ds_set 4 sc__law_ring_facts.nd (de_call c__law_digits (hr.mono (by decide)) (da_cons (de_var 0) (da_cons de_int (da_cons (de_mul (DE.t de_int) (dt_var 2)) da_nil)))))
      (dss_cons (ds_set 5 sc__law_ring_facts.nd (de_ix (DF.t (df_lst (da_cons (de_neg (DE.t de_int)) (da_cons (de_neg (DE.t de_int)) (da_cons de_int (da_cons de_int (da_cons (de_sub (DE.t (de_neg (DE.t de_int))) (DE.t (de_mod (DE.t (de_int1 h_int (DE.t (de_ix (dt_var 4) (DE.t de_int))))) (DE.t de_int)))) da_nil))))))) (DE.t (de_call c__law_draw (hr.mono (by decide)) (da_cons (de_var 0) (da_cons de_int (da_cons de_int (da_cons de_int da_nil))))))))
      (dss_cons (ds_setO 6 sc__law_ring_facts.nd (df_lst da_nil))
      (dss_cons (ds_for PassesOwn.never rfl (di_range1 h_range (dt_var 2)) (dg_name 7 sc__law_ring_facts.nd) (dss_cons (ds_set 8 sc__law_ring_facts.nd (de_ix (dt_var 1) (dt_var 7)))
      (dss_cons (ds_set 9 sc__law_ring_facts.nd (de_ix (dt_var 1) (DE.t (de_mod (DE.t (de_int1 h_int (DE.t (de_add (dt_var 7) (DE.t de_int))))) (dt_var 2)))))
      (dss_cons (ds_set 10 sc__law_ring_facts.nd (de_mul (DE.t (de_sub (DE.t (de_mod (DE.t (de_int1 h_int (DE.t (de_ix (dt_var 4) (DE.t (de_mul (DE.t de_int) (dt_var 7))))))) (DE.t de_int))) (DE.t de_int))) (dt_var 3)))
      (dss_cons (ds_if (db_cmp (op_eqAll hr) od_eq (dt_var 7) (DE.t (de_sub (dt_var 2) (DE.t de_int)))) (dss_one (ds_set 10 sc__law_ring_facts.nd (de_var 5))) dss_nil)
      (dss_cons (ds_set 5 sc__law_ring_facts.nd (de_sub (dt_var 5) (dt_var 10)))
      (dss_cons (ds_set 11 sc__law_ring_facts.nd (de_call c__law_bound (hr.mono (by decide)) (da_cons (de_ix (dt_var 4) (DE.t (de_add (DE.t (de_mul (DE.t de_int) (dt_var 7))) (DE.t de_int)))) (da_cons (de_var 3) da_nil))))
      (dss_one (ds_if (db_cmp (op_eqAll hr) od_eq (DE.t (de_mod (DE.t (de_int1 h_int (DE.t (de_ix (dt_var 4) (DE.t (de_add (DE.t (de_mul (DE.t de_int) (dt_var 7))) (DE.t de_int))))))) (DE.t de_int))) (DE.t de_int)) (dss_one (ds_app 6 (de_tup (da_cons (de_tup (da_cons (de_var 8) (da_cons (de_var 9) (da_cons (de_var 11) (da_cons (de_var 10) da_nil))))) (da_cons de_str da_nil))))) (dss_one (ds_app 6 (de_tup (da_cons (de_tup (da_cons (de_var 9) (da_cons (de_var 8) (da_cons (de_sub (DE.t de_int) (dt_var 10)) (da_cons (de_var 11) da_nil))))) (da_cons de_str da_nil))))))))))))))
      (dss_one (ds_retO 6)))))))
theorem bd__law_ring_facts (kV doc pm : Value) (an : Option Addr) (cdv ct : Value) (us : List Value) (hl : us.length = ["script", "order", "width", "scale"].length) : bindArgs (PySem.W.fnOf "_law_ring_facts" "_law_ring_facts" (defArgs s__law_ring_facts) (defBody s__law_ring_facts) (defScope s__law_ring_facts) .none kV doc pm an cdv ct) ⟨us, []⟩ = pure ((["script", "order", "width", "scale"] : List Str).zip us) := match us, hl with | [_, _, _, _], _ => rfl
theorem cal__law_ring_facts (F : Stands K mg "_law_ring_facts" s__law_ring_facts) (c__law_digits : Cal P w K mg base "_law_digits" 3 3 m__law_digits) (c__law_draw : Cal P w K mg base "_law_draw" 2 4 m__law_draw) (c__law_bound : Cal P w K mg base "_law_bound" 1 2 m__law_bound) (h_int : mg "int" = none) (h_range : mg "range" = none) : Cal P w K mg base "_law_ring_facts" 4 4 m__law_ring_facts :=
  cal_of F bd__law_ring_facts fun F => fn__law_ring_facts F c__law_digits c__law_draw c__law_bound h_int h_range
def mF__law_ring_facts : List D → Option (List D) := callF 4 12 b__law_ring_facts
theorem fnF__law_ring_facts {f : Addr} {fd : FuncData} (F : FunD K "_law_ring_facts" "_law_ring_facts" (defArgs s__law_ring_facts) (defBody s__law_ring_facts) (defScope s__law_ring_facts) [] [] f fd) (c__law_digits : Cal P w K mg base "_law_digits" 3 3 m__law_digits) (c__law_draw : Cal P w K mg base "_law_draw" 2 4 m__law_draw) (c__law_bound : Cal P w K mg base "_law_bound" 1 2 m__law_bound) (h_int : mg "int" = none) (h_range : mg "range" = none) : FnOk P w K mg base CX0 4 f fd ["script", "order", "width", "scale"] (spF K 4 mF__law_ring_facts) :=
  fnF_mk (N := N__law_ring_facts) (m := b__law_ring_facts) F sc__law_ring_facts rfl (fun cdv A outer s H E hr =>
      (dss_cons (ds_set 4 sc__law_ring_facts.nd (de_call c__law_digits (hr.mono (by decide)) (da_cons (de_var 0) (da_cons de_int (da_cons (de_mul (DE.t de_int) (dt_var 2)) da_nil)))))
      (dss_cons (ds_set 5 sc__law_ring_facts.nd (de_ix (DF.t (df_lst (da_cons (de_neg (DE.t de_int)) (da_cons (de_neg (DE.t de_int)) (da_cons de_int (da_cons de_int (da_cons (de_sub (DE.t (de_neg (DE.t de_int))) (DE.t (de_mod (DE.t (de_int1 h_int (DE.t (de_ix (dt_var 4) (DE.t de_int))))) (DE.t de_int)))) da_nil))))))) (DE.t (de_call c__law_draw (hr.mono (by decide)) (da_cons (de_var 0) (da_cons de_int (da_cons de_int (da_cons de_int da_nil))))))))
      (dss_cons (ds_setO 6 sc__law_ring_facts.nd (df_lst da_nil))
      (dss_cons (ds_for PassesOwn.never rfl (di_range1 h_range (dt_var 2)) (dg_name 7 sc__law_ring_facts.nd) (dss_cons (ds_set 8 sc__law_ring_facts.nd (de_ix (dt_var 1) (dt_var 7)))
      (dss_cons (ds_set 9 sc__law_ring_facts.nd (de_ix (dt_var 1) (DE.t (de_mod (DE.t (de_int1 h_int (DE.t (de_add (dt_var 7) (DE.t de_int))))) (dt_var 2)))))
      (dss_cons (ds_set 10 sc__law_ring_facts.nd (de_mul (DE.t (de_sub (DE.t (de_mod (DE.t (de_int1 h_int (DE.t (de_ix (dt_var 4) (DE.t (de_mul (DE.t de_int) (dt_var 7))))))) (DE.t de_int))) (DE.t de_int))) (dt_var 3)))
      (dss_cons (ds_if (db_cmp (op_eqAll hr) od_eq (dt_var 7) (DE.t (de_sub (dt_var 2) (DE.t de_int)))) (dss_one (ds_set 10 sc__law_ring_facts.nd (de_var 5))) dss_nil)
      (dss_cons (ds_set 5 sc__law_ring_facts.nd (de_sub (dt_var 5) (dt_var 10)))
      (dss_cons (ds_set 11 sc__law_ring_facts.nd (de_call c__law_bound (hr.mono (by decide)) (da_cons (de_ix (dt_var 4) (DE.t (de_add (DE.t (de_mul (DE.t de_int) (dt_var 7))) (DE.t de_int)))) (da_cons (de_var 3) da_nil))))
      (dss_one (ds_if (db_cmp (op_eqAll hr) od_eq (DE.t (de_mod (DE.t (de_int1 h_int (DE.t (de_ix (dt_var 4) (DE.t (de_add (DE.t (de_mul (DE.t de_int) (dt_var 7))) (DE.t de_int))))))) (DE.t de_int))) (DE.t de_int)) (dss_one (ds_app 6 (de_tup (da_cons (de_tup (da_cons (de_var 8) (da_cons (de_var 9) (da_cons (de_var 11) (da_cons (de_var 10) da_nil))))) (da_cons de_str da_nil))))) (dss_one (ds_app 6 (de_tup (da_cons (de_tup (da_cons (de_var 9) (da_cons (de_var 8) (da_cons (de_sub (DE.t de_int) (dt_var 10)) (da_cons (de_var 11) da_nil))))) (da_cons de_str da_nil))))))))))))))
      (dss_one (ds_retO 6)))))))
theorem calF__law_ring_facts (F : Stands K mg "_law_ring_facts" s__law_ring_facts) (c__law_digits : Cal P w K mg base "_law_digits" 3 3 m__law_digits) (c__law_draw : Cal P w K mg base "_law_draw" 2 4 m__law_draw) (c__law_bound : Cal P w K mg base "_law_bound" 1 2 m__law_bound) (h_int : mg "int" = none) (h_range : mg "range" = none) : CalF P w K mg base "_law_ring_facts" 4 4 mF__law_ring_facts :=
  calF_of F bd__law_ring_facts fun F => fnF__law_ring_facts F c__law_digits c__law_draw c__law_bound h_int h_range

abbrev s__law_extra : Stmt := topS 15
abbrev N__law_extra : List Str := ["digits", "planned", "count", "scale", "kind", "a", "b", "high"]
theorem sc__law_extra : FnScope N__law_extra ["digits", "planned", "count", "scale"] (defScope s__law_extra) := ⟨rfl, rfl, rfl, by decide +kernel, rfl, by decide +kernel, by decide +kernel⟩
def b__law_extra : En → Option Out :=
      (mSeq (mSet 4 (mBin (intOpC (fun _ j => decide (0 < j)) fun i j => .int (i % j)) (mUn intD (mBin ixD (mVarT 0) (mC (.int 0)))) (mC (.int 4))))
      (mSeq (mSet 5 (mBin (intOpC (fun _ j => decide (0 < j)) fun i j => .int (i % j)) (mUn intD (mBin ixD (mVarT 0) (mC (.int 1)))) (mVarT 2)))
      (mSeq (mSet 6 (mBin (intOpC (fun _ j => decide (0 < j)) fun i j => .int (i % j)) (mUn intD (mBin addD (mBin addD (mVarT 5) (mC (.int 1))) (mBin (intOpC (fun _ j => decide (0 < j)) fun i j => .int (i % j)) (mUn intD (mBin ixD (mVarT 0) (mC (.int 2)))) (mBin (intOp fun i j => .int (i - j)) (mVarT 2) (mC (.int 1)))))) (mVarT 2)))
      (mSeq (mSet 7 (mBin (intOpC mulOk fun i j => .int (i * j)) (mBin (intOp fun i j => .int (i - j)) (mBin (intOpC (fun _ j => decide (0 < j)) fun i j => .int (i % j)) (mUn intD (mBin (intOpC divOk fun i j => .int (i / j)) (mBin ixD (mVarT 0) (mC (.int 3))) (mC (.int 7)))) (mC (.int 19))) (mC (.int 9))) (mVarT 3)))
      (mSeq (mIfS (fun E => ((mBin eqD (mVarT 4) (mC (.int 0))) E).bind blOf) (mRet (mBin ixD (mBin ixD (mVarT 1) (mBin (intOpC (fun _ j => decide (0 < j)) fun i j => .int (i % j)) (mUn intD (mBin ixD (mVarT 0) (mC (.int 1)))) (mUn lenD (mVarT 1)))) (mC (.int 0)))) mNext)
      (mSeq (mIfS (fun E => ((mBin eqD (mVarT 4) (mC (.int 1))) E).bind blOf) (mRet (mTup (mCons (mVar 5) (mCons (mVar 6) (mCons (mBin (intOp fun i j => .int (i - j)) (mBin addD (mVarT 7) (mBin (intOpC (fun _ j => decide (0 < j)) fun i j => .int (i % j)) (mUn intD (mBin ixD (mVarT 0) (mC (.int 4)))) (mC (.int 3)))) (mC (.int 1))) (mCons (mVar 7) mNil)))))) mNext)
      (mRet (mTup (mCons (mVar 5) (mCons (mVar 6) (mCons (mCall 2 m__law_bound (mCons (mBin ixD (mVarT 0) (mC (.int 3))) (mCons (mVar 3) mNil))) (mCons (mCall 2 m__law_bound (mCons (mBin ixD (mVarT 0) (mC (.int 4))) (mCons (mVar 3) mNil))) mNil))))))))))))
def m__law_extra : List D → Option D := callM 4 8 b__law_extra
theorem fn__law_extra {f : Addr} {fd : FuncData} (F : FunD K "_law_extra" "_law_extra" (defArgs s__law_extra) (defBody s__law_extra) (defScope s__law_extra) [] [] f fd) (c__law_bound : Cal P w K mg base "_law_bound" 1 2 m__law_bound) (h_int : mg "int" = none) (h_len : mg "len" = none) : FnOk P w K mg base CX0 2 f fd ["digits", "planned", "count", "scale"] (spD K 4 m__law_extra) :=
  fn_mk (N := N__law_extra) (m := b__law_extra) F sc__law_extra rfl (fun cdv A outer s H E hr =>
      (dss_cons (ds_set 4 sc__law_extra.nd (de_mod (DE.t (de_int1 h_int (DE.t (de_ix (dt_var 0) (DE.t de_int))))) (DE.t de_int)))
      (dss_cons (ds_set 5 sc__law_extra.nd (de_mod (DE.t (de_int1 h_int (DE.t (de_ix (dt_var 0) (DE.t de_int))))) (dt_var 2)))
      (dss_cons (ds_set 6 sc__law_extra.nd (de_mod (DE.t (de_int1 h_int (DE.t (de_add (DE.t (de_add (dt_var 5) (DE.t de_int))) (DE.t (de_mod (DE.t (de_int1 h_int (DE.t (de_ix (dt_var 0) (DE.t de_int))))) (DE.t (de_sub (dt_var 2) (DE.t de_int))))))))) (dt_var 2)))
      (dss_cons (ds_set 7 sc__law_extra.nd (de_mul (DE.t (de_sub (DE.t (de_mod (DE.t (de_int1 h_int (DE.t (de_fdiv (DE.t (de_ix (dt_var 0) (DE.t de_int))) (DE.t de_int))))) (DE.t de_int))) (DE.t de_int))) (dt_var 3)))
      (dss_cons (ds_if (db_cmp (op_eqAll hr) od_eq (dt_var 4) (DE.t de_int)) (dss_one (ds_ret (DE.t (de_ix (DE.t (de_ix (dt_var 1) (DE.t (de_mod (DE.t (de_int1 h_int (DE.t (de_ix (dt_var 0) (DE.t de_int))))) (DE.t (de_len h_len (dt_var 1))))))) (DE.t de_int))))) dss_nil)
      (dss_cons (ds_if (db_cmp (op_eqAll hr) od_eq (dt_var 4) (DE.t de_int)) (dss_one (ds_ret (DE.t (de_tup (da_cons (de_var 5) (da_cons (de_var 6) (da_cons (de_sub (DE.t (de_add (dt_var 7) (DE.t (de_mod (DE.t (de_int1 h_int (DE.t (de_ix (dt_var 0) (DE.t de_int))))) (DE.t de_int))))) (DE.t de_int)) (da_cons (de_var 7) da_nil)))))))) dss_nil)
      (dss_one (ds_ret (DE.t (de_tup (da_cons (de_var 5) (da_cons (de_var 6) (da_cons (de_call c__law_bound (hr.mono (by decide)) (da_cons (de_ix (dt_var 0) (DE.t de_int)) (da_cons (de_var 3) da_nil))) (da_cons (de_call c__law_bound (hr.mono (by decide)) (da_cons (de_ix (dt_var 0) (DE.t de_int)) (da_cons (de_var 3) da_nil))) da_nil)))))))))))))))
theorem bd__law_extra (kV doc pm : Value) (an : Option Addr) (cdv ct : Value) (us : List Value) (hl : us.length = ["digits", "planned", "count", "scale"].length) : bindArgs (PySem.W.fnOf "_law_extra" "_law_extra" (defArgs s__law_extra) (defBody s__law_extra) (defScope s__law_extra) .none kV doc pm an cdv ct) ⟨us, []⟩ = pure ((["digits", "planned", "count", "scale"] : List Str).zip us) := match us, hl with | [_, _, _, _], _ => rfl
theorem cal__law_extra (F : Stands K mg "_law_extra" s__law_extra) (c__law_bound : Cal P w K mg base "_law_bound" 1 2 m__law_bound) (h_int : mg "int" = none) (h_len : mg "len" = none) : Cal P w K mg base "_law_extra" 2 4 m__law_extra :=
  cal_of F bd__law_extra fun F => fn__law_extra F c__law_bound h_int h_len

abbrev s__law_facts : Stmt := topS 16
abbrev N__law_facts : List Str := ["script", "large", "count", "extras", "width", "scale", "order", "planned", "digits", "k", "spots", "shuffled", "ring", "entry"]
theorem sc__law_facts : FnScope N__law_facts ["script", "large"] (defScope s__law_facts) := ⟨rfl, rfl, rfl, by decide +kernel, rfl, by decide +kernel, by decide +kernel⟩
def b__law_facts : En → Option Out :=
      (mSeq (mSet 2 (mBin addD (mC (.int 2)) (mCall 4 m__law_draw (mCons (mVar 0) (mCons (mC (.int 0)) (mCons (mC (.int 1)) (mCons (mC (.int 6)) mNil)))))))
      (mSeq (mSet 3 (mCall 4 m__law_draw (mCons (mVar 0) (mCons (mC (.int 0)) (mCons (mC (.int 2)) (mCons (mC (.int 6)) mNil))))))
      (mSeq (mIfS (fun E => ((mVarT 1) E).bind truD) (mSet 2 (mC (.int 60))) mNext)
      (mSeq (mSet 4 (mBin addD (mC (.int 2)) (mCall 4 m__law_draw (mCons (mVar 0) (mCons (mC (.int 0)) (mCons (mC (.int 3)) (mCons (mBin (intOp fun i j => .int (i - j)) (mVarT 2) (mC (.int 1))) mNil)))))))
      (mSeq (mIfS (fun E => ((mVarT 1) E).bind truD) (mSet 3 (mBin (intOp fun i j => .int (i - j)) (mC (.int 400)) (mVarT 4))) mNext)
      (mSeq (mSet 5 (mBin ixD (mList (mLst (mCons (mC (.int 1)) (mCons (mC (.int 1)) (mCons (mC (.int 1)) (mCons (mC (.int 1000)) (mCons (mBin (intOpC powOk fun i j => .int (i ^ j.toNat)) (mC (.int 10)) (mC (.int 9))) mNil))))))) (mCall 4 m__law_draw (mCons (mVar 0) (mCons (mC (.int 0)) (mCons (mC (.int 4)) (mCons (mC (.int 5)) mNil)))))))
      (mSeq (mSet 6 (mCall 3 m__law_order (mCons (mVar 0) (mCons (mC (.int 1)) (mCons (mVar 2) mNil)))))
      (mSeq (mSetO 7 (mCallF 4 mF__law_ring_facts (mCons (mVar 0) (mCons (mVar 6) (mCons (mVar 4) (mCons (mVar 5) mNil))))))
      (mSeq (mSet 8 (mCall 3 m__law_digits (mCons (mVar 0) (mCons (mC (.int 5)) (mCons (mBin (intOpC mulOk fun i j => .int (i * j)) (mC (.int 5)) (mVarT 3)) mNil)))))
      (mSeq (mFor (fun E => ((mVarT 3) E).bind rg1) (gM 9) (mApp 7 (mTup (mCons (mCallT 4 m__law_extra (mCons (mList (fun E => (((mVarT 8) E).bind lstOf).bind fun ds => ((fun E => ((mBin (intOpC mulOk fun i j => .int (i * j)) (mC (.int 5)) (mVarT 9)) E).bind inOf) E).bind fun l => ((fun E => ((mBin addD (mBin (intOpC mulOk fun i j => .int (i * j)) (mC (.int 5)) (mVarT 9)) (mC (.int 5))) E).bind inOf) E).map fun h => cutD ds l h)) (mCons (mVarT 7) (mCons (mVarT 2) (mCons (mVarT 5) mNil))))) (mCons (mC (.str "")) mNil)))))
      (mSeq (mSet 10 (mCall 3 m__law_digits (mCons (mVar 0) (mCons (mC (.int 6)) (mCons (mUn lenD (mVarT 7)) mNil)))))
      (mSeq (mSetO 11 (mLst mNil))
      (mSeq (mFor (fun E => ((mUn lenD (mVarT 7)) E).bind rg1) (gM 9) (mIns 11 (mBin (intOpC (fun _ j => decide (0 < j)) fun i j => .int (i % j)) (mUn intD (mBin ixD (mVarT 10) (mVarT 9))) (mBin addD (mVarT 9) (mC (.int 1)))) (mTup (mCons (mVar 9) (mCons (mBin ixD (mBin ixD (mVarT 7) (mVarT 9)) (mC (.int 0))) (mCons (mBin ixD (mBin ixD (mVarT 7) (mVarT 9)) (mC (.int 1))) mNil))))))
      (mSeq (mSetO 12 (fun E => ((mList (mLst (mCons (mTup (mCons (mC (.int 0)) (mCons (mC (.str "")) mNil))) mNil))) E).bind fun x => ((mVarT 4) E).bind fun y => repD x y))
      (mSeq (mFor (fun E => ((mUn lenD (mVarT 11)) E).bind rg1) (gM 9) (mIfS (fun E => ((mBin (intOp fun i j => .bl (decide (i < j))) (mBin ixD (mBin ixD (mVarT 11) (mVarT 9)) (mC (.int 0))) (mVarT 4)) E).bind blOf) (mSub 12 (mTup (mCons (mVar 9) (mCons (mBin ixD (mBin ixD (mVarT 11) (mVarT 9)) (mC (.int 2))) mNil))) (mBin ixD (mBin ixD (mVarT 11) (mVarT 9)) (mC (.int 0)))) mNext))
      (mFrz 12 (mRet (mTup (mCons (mVar 2) (mCons (mVar 6) (mCons (mList (mComp [13] (fun E => ((mVarT 11) E).bind lstOf) (gM 13) mYes (mBin ixD (mVarT 13) (mC (.int 1))))) (mCons (mVar 12) mNil))))))))))))))))))))))
def m__law_facts : List D → Option D := callM 2 14 b__law_facts
theorem fn__law_facts {f : Addr} {fd : FuncData} (F : FunD K "_law_facts" "_law_facts" (defArgs s__law_facts) (defBody s__law_facts) (defScope s__law_facts) [] [] f fd) (c__law_draw : Cal P w K mg base "_law_draw" 2 4 m__law_draw) (c__law_order : Cal P w K mg base "_law_order" 4 3 m__law_order) (c__law_digits : Cal P w K mg base "_law_digits" 3 3 m__law_digits) (c__law_extra : Cal P w K mg base "_law_extra" 2 4 m__law_extra) (f__law_ring_facts : CalF P w K mg base "_law_ring_facts" 4 4 mF__law_ring_facts) (h_range : mg "range" = none) (h_len : mg "len" = none) (h_int : mg "int" = none) : FnOk P w K mg base CX0 5 f fd ["script", "large"] (spD K 2 m__law_facts) :=
  fn_mk (N := N__law_facts) (m := b__law_facts) F sc__law_facts rfl (fun cdv A outer s H E hr =>
      (dss_cons (ds_set 2 sc__law_facts.nd (de_add (DE.t de_int) (DE.t (de_call c__law_draw (hr.mono (by decide)) (da_cons (de_var 0) (da_cons de_int (da_cons de_int (da_cons de_int da_nil))))))))
      (dss_cons (ds_set 3 sc__law_facts.nd (de_call c__law_draw (hr.mono (by decide)) (da_cons (de_var 0) (da_cons de_int (da_cons de_int (da_cons de_int da_nil))))))
      (dss_cons (ds_if (db_tru (dt_var 1)) (dss_one (ds_set 2 sc__law_facts.nd de_int)) dss_nil)
      (dss_cons (ds_set 4 sc__law_facts.nd (de_add (DE.t de_int) (DE.t (de_call c__law_draw (hr.mono (by decide)) (da_cons (de_var 0) (da_cons de_int (da_cons de_int (da_cons (de_sub (dt_var 2) (DE.t de_int)) da_nil))))))))
      (dss_cons (ds_if (db_tru (dt_var 1)) (dss_one (ds_set 3 sc__law_facts.nd (de_sub (DE.t de_int) (dt_var 4)))) dss_nil)
      (dss_cons (ds_set 5 sc__law_facts.nd (de_ix (DF.t (df_lst (da_cons de_int (da_cons de_int (da_cons de_int (da_cons de_int (da_cons (de_pow (DE.t de_int) (DE.t de_int)) da_nil))))))) (DE.t (de_call c__law_draw (hr.mono (by decide)) (da_cons (de_var 0) (da_cons de_int (da_cons de_int (da_cons de_int da_nil))))))))
      (dss_cons (ds_set 6 sc__law_facts.nd (de_call c__law_order (hr.mono (by decide)) (da_cons (de_var 0) (da_cons de_int (da_cons (de_var 2) da_nil)))))
      (dss_cons (ds_setO 7 sc__law_facts.nd (df_call f__law_ring_facts (hr.mono (by decide)) (da_cons (de_var 0) (da_cons (de_var 6) (da_cons (de_var 4) (da_cons (de_var 5) da_nil))))))
      (dss_cons (ds_set 8 sc__law_facts.nd (de_call c__law_digits (hr.mono (by decide)) (da_cons (de_var 0) (da_cons de_int (da_cons (de_mul (DE.t de_int) (dt_var 3)) da_nil)))))
      (dss_cons (ds_for PassesOwn.never rfl (di_range1 h_range (dt_var 3)) (dg_name 9 sc__law_facts.nd) (dss_one (ds_app 7 (de_tup (da_cons (de_callT c__law_extra (hr.mono (by decide)) (dat_cons (DF.t (df_slice (dt_var 8) (do_some (DE.t (de_mul (DE.t de_int) (dt_var 9)))) (do_some (DE.t (de_add (DE.t (de_mul (DE.t de_int) (dt_var 9))) (DE.t de_int)))))) (dat_cons (dt_var 7) (dat_cons (dt_var 2) (dat_cons (dt_var 5) dat_nil))))) (da_cons de_str da_nil))))))
      (dss_cons (ds_set 10 sc__law_facts.nd (de_call c__law_digits (hr.mono (by decide)) (da_cons (de_var 0) (da_cons de_int (da_cons (de_len h_len (dt_var 7)) da_nil)))))
      (dss_cons (ds_setO 11 sc__law_facts.nd (df_lst da_nil))
      (dss_cons (ds_for PassesOwn.never rfl (di_range1 h_range (DE.t (de_len h_len (dt_var 7)))) (dg_name 9 sc__law_facts.nd) (dss_one (ds_ins 11 (de_mod (DE.t (de_int1 h_int (DE.t (de_ix (dt_var 10) (dt_var 9))))) (DE.t (de_add (dt_var 9) (DE.t de_int)))) (de_tup (da_cons (de_var 9) (da_cons (de_ix (DE.t (de_ix (dt_var 7) (dt_var 9))) (DE.t de_int)) (da_cons (de_ix (DE.t (de_ix (dt_var 7) (dt_var 9))) (DE.t de_int)) da_nil)))))))
      (dss_cons (ds_setO 12 sc__law_facts.nd (df_rep (DF.t (df_lst (da_cons (de_tup (da_cons de_int (da_cons de_str da_nil))) da_nil))) (dt_var 4)))
      (dss_cons (ds_for PassesOwn.never rfl (di_range1 h_range (DE.t (de_len h_len (dt_var 11)))) (dg_name 9 sc__law_facts.nd) (dss_one (ds_if (db_cmp op_lt od_lt (DE.t (de_ix (DE.t (de_ix (dt_var 11) (dt_var 9))) (DE.t de_int))) (dt_var 4)) (dss_one (ds_sub 12 (de_tup (da_cons (de_var 9) (da_cons (de_ix (DE.t (de_ix (dt_var 11) (dt_var 9))) (DE.t de_int)) da_nil))) (de_ix (DE.t (de_ix (dt_var 11) (dt_var 9))) (DE.t de_int)))) dss_nil)))
      (dss_one (ds_frz 12 (ds_ret (DE.t (de_tup (da_cons (de_var 2) (da_cons (de_var 6) (da_cons (DF.toE (df_lc (own := [("entry", 13)]) rfl sc__law_facts.nd (dit_list (dt_var 11)) (blkOk_by (N := N__law_facts) (sc := defScope s__law_facts) (by decide +kernel)) (by decide) (fun _ _ _ _ _ => (dg_name 13 sc__law_facts.nd)) (fun _ _ _ _ _ => dts_nil) (fun _ _ _ _ _ => (de_ix (dt_var 13) (DE.t de_int))))) (da_cons (de_var 12) da_nil)))))))))))))))))))))))))
theorem bd__law_facts (kV doc pm : Value) (an : Option Addr) (cdv ct : Value) (us : List Value) (hl : us.length = ["script", "large"].length) : bindArgs (PySem.W.fnOf "_law_facts" "_law_facts" (defArgs s__law_facts) (defBody s__law_facts) (defScope s__law_facts) .none kV doc pm an cdv ct) ⟨us, []⟩ = pure ((["script", "large"] : List Str).zip us) := match us, hl with | [_, _], _ => rfl
theorem cal__law_facts (F : Stands K mg "_law_facts" s__law_facts) (c__law_draw : Cal P w K mg base "_law_draw" 2 4 m__law_draw) (c__law_order : Cal P w K mg base "_law_order" 4 3 m__law_order) (c__law_digits : Cal P w K mg base "_law_digits" 3 3 m__law_digits) (c__law_extra : Cal P w K mg base "_law_extra" 2 4 m__law_extra) (f__law_ring_facts : CalF P w K mg base "_law_ring_facts" 4 4 mF__law_ring_facts) (h_range : mg "range" = none) (h_len : mg "len" = none) (h_int : mg "int" = none) : Cal P w K mg base "_law_facts" 5 2 m__law_facts :=
  cal_of F bd__law_facts fun F => fn__law_facts F c__law_draw c__law_order c__law_digits c__law_extra f__law_ring_facts h_range h_len h_int

abbrev s__law_step : Stmt := topS 17
abbrev N__law_step : List Str := ["facts", "step", "fact"]
theorem sc__law_step : FnScope N__law_step ["facts", "step"] (defScope s__law_step) := ⟨rfl, rfl, rfl, by decide +kernel, rfl, by decide +kernel, by decide +kernel⟩
def b__law_step : En → Option Out :=
      (mSeq (mIfS (mOr (fun E => ((mBin (intOp fun i j => .bl (decide (i < j))) (mBin ixD (mVarT 1) (mC (.int 0))) (mC (.int 0))) E).bind blOf) (fun E => ((mBin (intOp fun i j => .bl (decide (j ≤ i))) (mBin ixD (mVarT 1) (mC (.int 0))) (mUn lenD (mVarT 0))) E).bind blOf)) (mRet (mC .non)) mNext)
      (mSeq (mSet 2 (mBin ixD (mVarT 0) (mBin ixD (mVarT 1) (mC (.int 0)))))
      (mSeq (mIfS (mAnd (fun E => ((mBin eqD (mBin ixD (mVarT 1) (mC (.int 1))) (mC (.str "high"))) E).bind blOf) (fun E => ((mBin ixD (mVarT 2) (mC (.int 3))) E).map (fun d => !isN d))) (mRet (mTup (mCons (mBin ixD (mVarT 2) (mC (.int 0))) (mCons (mBin ixD (mVarT 2) (mC (.int 1))) (mCons (mBin ixD (mVarT 2) (mC (.int 3))) mNil))))) mNext)
      (mSeq (mIfS (mAnd (fun E => ((mBin eqD (mBin ixD (mVarT 1) (mC (.int 1))) (mC (.str "low"))) E).bind blOf) (fun E => ((mBin ixD (mVarT 2) (mC (.int 2))) E).map (fun d => !isN d))) (mRet (mTup (mCons (mBin ixD (mVarT 2) (mC (.int 1))) (mCons (mBin ixD (mVarT 2) (mC (.int 0))) (mCons (mBin (intOp fun i j => .int (i - j)) (mC (.int 0)) (mBin ixD (mVarT 2) (mC (.int 2)))) mNil))))) mNext)
      (mRet (mC .non))))))
def m__law_step : List D → Option D := callM 2 3 b__law_step
theorem fn__law_step {f : Addr} {fd : FuncData} (F : FunD K "_law_step" "_law_step" (defArgs s__law_step) (defBody s__law_step) (defScope s__law_step) [] [] f fd) (h_len : mg "len" = none) : FnOk P w K mg base CX0 1 f fd ["facts", "step"] (spD K 2 m__law_step) :=
  fn_mk (N := N__law_step) (m := b__law_step) F sc__law_step rfl (fun cdv A outer s H E hr =>
      (dss_cons (ds_if (DW.toB (dw_or (db_cmp op_lt od_lt (DE.t (de_ix (dt_var 1) (DE.t de_int))) (DE.t de_int)) (dw_or1 (db_cmp op_ge od_ge (DE.t (de_ix (dt_var 1) (DE.t de_int))) (DE.t (de_len h_len (dt_var 0))))))) (dss_one (ds_ret (DE.t de_non))) dss_nil)
      (dss_cons (ds_set 2 sc__law_step.nd (de_ix (dt_var 0) (DE.t (de_ix (dt_var 1) (DE.t de_int)))))
      (dss_cons (ds_if (DW.toB (dw_and (db_cmp (op_eqAll hr) od_eq (DE.t (de_ix (dt_var 1) (DE.t de_int))) (DE.t de_str)) (dw_and1 (db_notN (DE.t (de_ix (dt_var 2) (DE.t de_int))))))) (dss_one (ds_ret (DE.t (de_tup (da_cons (de_ix (dt_var 2) (DE.t de_int)) (da_cons (de_ix (dt_var 2) (DE.t de_int)) (da_cons (de_ix (dt_var 2) (DE.t de_int)) da_nil))))))) dss_nil)
      (dss_cons (ds_if (DW.toB (dw_and (db_cmp (op_eqAll hr) od_eq (DE.t (de_ix (dt_var 1) (DE.t de_int))) (DE.t de_str)) (dw_and1 (db_notN (DE.t (de_ix (dt_var 2) (DE.t de_int))))))) (dss_one (ds_ret (DE.t (de_tup (da_cons (de_ix (dt_var 2) (DE.t de_int)) (da_cons (de_ix (dt_var 2) (DE.t de_int)) (da_cons (de_sub (DE.t de_int) (DE.t (de_ix (dt_var 2) (DE.t de_int)))) da_nil))))))) dss_nil)
      (dss_one (ds_ret (DE.t de_non))))))))
theorem bd__law_step (kV doc pm : Value) (an : Option Addr) (cdv ct : Value) (us : List Value) (hl : us.length = ["facts", "step"].length) : bindArgs (PySem.W.fnOf "_law_step" "_law_step" (defArgs s__law_step) (defBody s__law_step) (defScope s__law_step) .none kV doc pm an cdv ct) ⟨us, []⟩ = pure ((["facts", "step"] : List Str).zip us) := match us, hl with | [_, _], _ => rfl
theorem cal__law_step (F : Stands K mg "_law_step" s__law_step) (h_len : mg "len" = none) : Cal P w K mg base "_law_step" 1 2 m__law_step :=
  cal_of F bd__law_step fun F => fn__law_step F h_len

abbrev s__law_chain : Stmt := topS 18
abbrev N__law_chain : List Str := ["facts", "steps", "places", "total", "step", "parts"]
theorem sc__law_chain : FnScope N__law_chain ["facts", "steps"] (defScope s__law_chain) := ⟨rfl, rfl, rfl, by decide +kernel, rfl, by decide +kernel, by decide +kernel⟩
def b__law_chain : En → Option Out :=
      (mSeq (mSetO 2 (mLst mNil))
      (mSeq (mSet 3 (mC (.int 0)))
      (mSeq (mFor (fun E => ((mVar 1) E).bind lstOf) (gM 4) (mSeq (mSet 5 (mCall 2 m__law_step (mCons (mVar 0) (mCons (mVar 4) mNil))))
      (mSeq (mIfS (fun E => ((mVarT 5) E).map isN) (mRet (mC .non)) mNext)
      (mSeq (mIfS (fun E => ((mBin eqD (mUn lenD (mVarT 2)) (mC (.int 0))) E).bind blOf) (mApp 2 (mBin ixD (mVarT 5) (mC (.int 0)))) mNext)
      (mSeq (mIfS (fun E => ((mBin neD (mBin ixD (mVarT 2) (mBin (intOp fun i j => .int (i - j)) (mUn lenD (mVarT 2)) (mC (.int 1)))) (mBin ixD (mVarT 5) (mC (.int 0)))) E).bind blOf) (mRet (mC .non)) mNext)
      (mSeq (mApp 2 (mBin ixD (mVarT 5) (mC (.int 1))))
      (mSet 3 (mBin addD (mVarT 3) (mBin ixD (mVarT 5) (mC (.int 2)))))))))))
      (mFrz 2 (mRet (mTup (mCons (mVar 2) (mCons (mVar 3) mNil))))))))
def m__law_chain : List D → Option D := callM 2 6 b__law_chain
theorem fn__law_chain {f : Addr} {fd : FuncData} (F : FunD K "_law_chain" "_law_chain" (defArgs s__law_chain) (defBody s__law_chain) (defScope s__law_chain) [] [] f fd) (c__law_step : Cal P w K mg base "_law_step" 1 2 m__law_step) (h_len : mg "len" = none) : FnOk P w K mg base CX0 2 f fd ["facts", "steps"] (spD K 2 m__law_chain) :=
  fn_mk (N := N__law_chain) (m := b__law_chain) F sc__law_chain rfl (fun cdv A outer s H E hr =>
      (dss_cons (ds_setO 2 sc__law_chain.nd (df_lst da_nil))
      (dss_cons (ds_set 3 sc__law_chain.nd de_int)
      (dss_cons (ds_for PassesOwn.never rfl (di_list (de_var 1)) (dg_name 4 sc__law_chain.nd) (dss_cons (ds_set 5 sc__law_chain.nd (de_call c__law_step (hr.mono (by decide)) (da_cons (de_var 0) (da_cons (de_var 4) da_nil))))
      (dss_cons (ds_if (db_isN (dt_var 5)) (dss_one (ds_ret (DE.t de_non))) dss_nil)
      (dss_cons (ds_if (db_cmp (op_eqAll hr) od_eq (DE.t (de_len h_len (dt_var 2))) (DE.t de_int)) (dss_one (ds_app 2 (de_ix (dt_var 5) (DE.t de_int)))) dss_nil)
      (dss_cons (ds_if (db_cmp (op_neAll hr) od_ne (DE.t (de_ix (dt_var 2) (DE.t (de_sub (DE.t (de_len h_len (dt_var 2))) (DE.t de_int))))) (DE.t (de_ix (dt_var 5) (DE.t de_int)))) (dss_one (ds_ret (DE.t de_non))) dss_nil)
      (dss_cons (ds_app 2 (de_ix (dt_var 5) (DE.t de_int)))
      (dss_one (ds_set 3 sc__law_chain.nd (de_add (dt_var 3) (DE.t (de_ix (dt_var 5) (DE.t de_int))))))))))))
      (dss_one (ds_frz 2 (ds_ret (DE.t (de_tup (da_cons (de_var 2) (da_cons (de_var 3) da_nil)))))))))))
theorem bd__law_chain (kV doc pm : Value) (an : Option Addr) (cdv ct : Value) (us : List Value) (hl : us.length = ["facts", "steps"].length) : bindArgs (PySem.W.fnOf "_law_chain" "_law_chain" (defArgs s__law_chain) (defBody s__law_chain) (defScope s__law_chain) .none kV doc pm an cdv ct) ⟨us, []⟩ = pure ((["facts", "steps"] : List Str).zip us) := match us, hl with | [_, _], _ => rfl
theorem cal__law_chain (F : Stands K mg "_law_chain" s__law_chain) (c__law_step : Cal P w K mg base "_law_step" 1 2 m__law_step) (h_len : mg "len" = none) : Cal P w K mg base "_law_chain" 2 2 m__law_chain :=
  cal_of F bd__law_chain fun F => fn__law_chain F c__law_step h_len

abbrev s__law_unlike : Stmt := topS 19
abbrev N__law_unlike : List Str := ["places", "ordered", "k"]
theorem sc__law_unlike : FnScope N__law_unlike ["places"] (defScope s__law_unlike) := ⟨rfl, rfl, rfl, by decide +kernel, rfl, by decide +kernel, by decide +kernel⟩
def b__law_unlike : En → Option Out :=
      (mSeq (mSet 1 (mList (fun E => (((mVarT 0) E).bind intsOf).map fun ns => (sortI ns).map .int)))
      (mSeq (mFor (fun E => ((mC (.int 1)) E).bind fun x => ((mUn lenD (mVarT 1)) E).bind fun y => rg2 x y) (gM 2) (mIfS (fun E => ((mBin eqD (mBin ixD (mVarT 1) (mBin (intOp fun i j => .int (i - j)) (mVarT 2) (mC (.int 1)))) (mBin ixD (mVarT 1) (mVarT 2))) E).bind blOf) (mRet (mC (.bl false))) mNext))
      (mRet (mC (.bl true)))))
def m__law_unlike : List D → Option D := callM 1 3 b__law_unlike
theorem fn__law_unlike {f : Addr} {fd : FuncData} (F : FunD K "_law_unlike" "_law_unlike" (defArgs s__law_unlike) (defBody s__law_unlike) (defScope s__law_unlike) [] [] f fd) (h_sorted : mg "sorted" = none) (h_len : mg "len" = none) (h_range : mg "range" = none) : FnOk P w K mg base CX0 1 f fd ["places"] (spD K 1 m__law_unlike) :=
  fn_mk (N := N__law_unlike) (m := b__law_unlike) F sc__law_unlike rfl (fun cdv A outer s H E hr =>
      (dss_cons (ds_set 1 sc__law_unlike.nd (DF.toE (df_sorted h_sorted (dt_var 0))))
      (dss_cons (ds_for PassesOwn.never rfl (di_range2 h_range (DE.t de_int) (DE.t (de_len h_len (dt_var 1)))) (dg_name 2 sc__law_unlike.nd) (dss_one (ds_if (db_cmp (op_eqAll hr) od_eq (DE.t (de_ix (dt_var 1) (DE.t (de_sub (dt_var 2) (DE.t de_int))))) (DE.t (de_ix (dt_var 1) (dt_var 2)))) (dss_one (ds_ret (DE.t de_bl))) dss_nil)))
      (dss_one (ds_ret (DE.t de_bl))))))
theorem bd__law_unlike (kV doc pm : Value) (an : Option Addr) (cdv ct : Value) (us : List Value) (hl : us.length = ["places"].length) : bindArgs (PySem.W.fnOf "_law_unlike" "_law_unlike" (defArgs s__law_unlike) (defBody s__law_unlike) (defScope s__law_unlike) .none kV doc pm an cdv ct) ⟨us, []⟩ = pure ((["places"] : List Str).zip us) := match us, hl with | [_], _ => rfl
theorem cal__law_unlike (F : Stands K mg "_law_unlike" s__law_unlike) (h_sorted : mg "sorted" = none) (h_len : mg "len" = none) (h_range : mg "range" = none) : Cal P w K mg base "_law_unlike" 1 1 m__law_unlike :=
  cal_of F bd__law_unlike fun F => fn__law_unlike F h_sorted h_len h_range

abbrev s__law_way_due : Stmt := topS 20
abbrev N__law_way_due : List Str := ["facts", "a", "b", "steps", "chain", "places"]
theorem sc__law_way_due : FnScope N__law_way_due ["facts", "a", "b", "steps"] (defScope s__law_way_due) := ⟨rfl, rfl, rfl, by decide +kernel, rfl, by decide +kernel, by decide +kernel⟩
def b__law_way_due : En → Option Out :=
      (mSeq (mIfS (fun E => ((mBin eqD (mUn lenD (mVarT 3)) (mC (.int 0))) E).bind blOf) (mRet (mBin eqD (mVarT 1) (mVarT 2))) mNext)
      (mSeq (mSet 4 (mCall 2 m__law_chain (mCons (mVar 0) (mCons (mVar 3) mNil))))
      (mSeq (mIfS (fun E => ((mVarT 4) E).map isN) (mRet (mC (.bl false))) mNext)
      (mSeq (mSet 5 (mBin ixD (mVarT 4) (mC (.int 0))))
      (mRet (mAndV (mBin eqD (mBin ixD (mVarT 5) (mC (.int 0))) (mVarT 1)) (mAndV (mBin eqD (mBin ixD (mVarT 5) (mBin (intOp fun i j => .int (i - j)) (mUn lenD (mVarT 5)) (mC (.int 1)))) (mVarT 2)) (mCall 1 m__law_unlike (mCons (mVar 5) mNil)))))))))
def m__law_way_due : List D → Option D := callM 4 6 b__law_way_due
theorem fn__law_way_due {f : Addr} {fd : FuncData} (F : FunD K "_law_way_due" "_law_way_due" (defArgs s__law_way_due) (defBody s__law_way_due) (defScope s__law_way_due) [] [] f fd) (c__law_chain : Cal P w K mg base "_law_chain" 2 2 m__law_chain) (c__law_unlike : Cal P w K mg base "_law_unlike" 1 1 m__law_unlike) (h_len : mg "len" = none) : FnOk P w K mg base CX0 3 f fd ["facts", "a", "b", "steps"] (spD K 4 m__law_way_due) :=
  fn_mk (N := N__law_way_due) (m := b__law_way_due) F sc__law_way_due rfl (fun cdv A outer s H E hr =>
      (dss_cons (ds_if (db_cmp (op_eqAll hr) od_eq (DE.t (de_len h_len (dt_var 3))) (DE.t de_int)) (dss_one (ds_ret (DE.t (de_cmp (op_eqAll hr) od_eq (dt_var 1) (dt_var 2))))) dss_nil)
      (dss_cons (ds_set 4 sc__law_way_due.nd (de_call c__law_chain (hr.mono (by decide)) (da_cons (de_var 0) (da_cons (de_var 3) da_nil))))
      (dss_cons (ds_if (db_isN (dt_var 4)) (dss_one (ds_ret (DE.t de_bl))) dss_nil)
      (dss_cons (ds_set 5 sc__law_way_due.nd (de_ix (dt_var 4) (DE.t de_int)))
      (dss_one (ds_ret (DE.t (de_and (de_cmp (op_eqAll hr) od_eq (DE.t (de_ix (dt_var 5) (DE.t de_int))) (dt_var 1)) (de_and (de_cmp (op_eqAll hr) od_eq (DE.t (de_ix (dt_var 5) (DE.t (de_sub (DE.t (de_len h_len (dt_var 5))) (DE.t de_int))))) (dt_var 2)) (de_one (de_call c__law_unlike (hr.mono (by decide)) (da_cons (de_var 5) da_nil)))))))))))))
theorem bd__law_way_due (kV doc pm : Value) (an : Option Addr) (cdv ct : Value) (us : List Value) (hl : us.length = ["facts", "a", "b", "steps"].length) : bindArgs (PySem.W.fnOf "_law_way_due" "_law_way_due" (defArgs s__law_way_due) (defBody s__law_way_due) (defScope s__law_way_due) .none kV doc pm an cdv ct) ⟨us, []⟩ = pure ((["facts", "a", "b", "steps"] : List Str).zip us) := match us, hl with | [_, _, _, _], _ => rfl
theorem cal__law_way_due (F : Stands K mg "_law_way_due" s__law_way_due) (c__law_chain : Cal P w K mg base "_law_chain" 2 2 m__law_chain) (c__law_unlike : Cal P w K mg base "_law_unlike" 1 1 m__law_unlike) (h_len : mg "len" = none) : Cal P w K mg base "_law_way_due" 3 4 m__law_way_due :=
  cal_of F bd__law_way_due fun F => fn__law_way_due F c__law_chain c__law_unlike h_len

abbrev s__law_low_due : Stmt := topS 21
abbrev N__law_low_due : List Str := ["facts", "steps", "chain", "places"]
theorem sc__law_low_due : FnScope N__law_low_due ["facts", "steps"] (defScope s__law_low_due) := ⟨rfl, rfl, rfl, by decide +kernel, rfl, by decide +kernel, by decide +kernel⟩
def b__law_low_due : En → Option Out :=
      (mSeq (mSet 2 (mCall 2 m__law_chain (mCons (mVar 0) (mCons (mVar 1) mNil))))
      (mSeq (mIfS (mOr (fun E => ((mBin eqD (mUn lenD (mVarT 1)) (mC (.int 0))) E).bind blOf) (fun E => ((mVarT 2) E).map isN)) (mRet (mC (.bl false))) mNext)
      (mSeq (mSet 3 (mBin ixD (mVarT 2) (mC (.int 0))))
      (mRet (mAndV (mBin eqD (mBin ixD (mVarT 3) (mC (.int 0))) (mBin ixD (mVarT 3) (mBin (intOp fun i j => .int (i - j)) (mUn lenD (mVarT 3)) (mC (.int 1))))) (mAndV (mCall 1 m__law_unlike (mCons (mList (fun E => (((mVarT 3) E).bind lstOf).bind fun ds => ((fun E => ((mC (.int 1)) E).bind inOf) E).bind fun l => ((fun _ => some none) E).map fun h => cutD ds l h)) mNil)) (mBin (intOp fun i j => .bl (decide (i < j))) (mBin ixD (mVarT 2) (mC (.int 1))) (mC (.int 0)))))))))
def m__law_low_due : List D → Option D := callM 2 4 b__law_low_due
theorem fn__law_low_due {f : Addr} {fd : FuncData} (F : FunD K "_law_low_due" "_law_low_due" (defArgs s__law_low_due) (defBody s__law_low_due) (defScope s__law_low_due) [] [] f fd) (c__law_chain : Cal P w K mg base "_law_chain" 2 2 m__law_chain) (c__law_unlike : Cal P w K mg base "_law_unlike" 1 1 m__law_unlike) (h_len : mg "len" = none) : FnOk P w K mg base CX0 3 f fd ["facts", "steps"] (spD K 2 m__law_low_due) :=
  fn_mk (N := N__law_low_due) (m := b__law_low_due) F sc__law_low_due rfl (fun cdv A outer s H E hr =>
      (dss_cons (ds_set 2 sc__law_low_due.nd (de_call c__law_chain (hr.mono (by decide)) (da_cons (de_var 0) (da_cons (de_var 1) da_nil))))
      (dss_cons (ds_if (DW.toB (dw_or (db_cmp (op_eqAll hr) od_eq (DE.t (de_len h_len (dt_var 1))) (DE.t de_int)) (dw_or1 (db_isN (dt_var 2))))) (dss_one (ds_ret (DE.t de_bl))) dss_nil)
      (dss_cons (ds_set 3 sc__law_low_due.nd (de_ix (dt_var 2) (DE.t de_int)))
      (dss_one (ds_ret (DE.t (de_and (de_cmp (op_eqAll hr) od_eq (DE.t (de_ix (dt_var 3) (DE.t de_int))) (DE.t (de_ix (dt_var 3) (DE.t (de_sub (DE.t (de_len h_len (dt_var 3))) (DE.t de_int)))))) (de_and (de_call c__law_unlike (hr.mono (by decide)) (da_cons (DF.toE (df_slice (dt_var 3) (do_some (DE.t de_int)) do_none)) da_nil)) (de_one (de_cmp op_lt od_lt (DE.t (de_ix (dt_var 2) (DE.t de_int))) (DE.t de_int))))))))))))
theorem bd__law_low_due (kV doc pm : Value) (an : Option Addr) (cdv ct : Value) (us : List Value) (hl : us.length = ["facts", "steps"].length) : bindArgs (PySem.W.fnOf "_law_low_due" "_law_low_due" (defArgs s__law_low_due) (defBody s__law_low_due) (defScope s__law_low_due) .none kV doc pm an cdv ct) ⟨us, []⟩ = pure ((["facts", "steps"] : List Str).zip us) := match us, hl with | [_, _], _ => rfl
theorem cal__law_low_due (F : Stands K mg "_law_low_due" s__law_low_due) (c__law_chain : Cal P w K mg base "_law_chain" 2 2 m__law_chain) (c__law_unlike : Cal P w K mg base "_law_unlike" 1 1 m__law_unlike) (h_len : mg "len" = none) : Cal P w K mg base "_law_low_due" 3 2 m__law_low_due :=
  cal_of F bd__law_low_due fun F => fn__law_low_due F c__law_chain c__law_unlike h_len

abbrev s__law_detour : Stmt := topS 22
abbrev N__law_detour : List Str := ["facts", "steps", "k", "j", "end"]
theorem sc__law_detour : FnScope N__law_detour ["facts", "steps", "k"] (defScope s__law_detour) := ⟨rfl, rfl, rfl, by decide +kernel, rfl, by decide +kernel, by decide +kernel⟩
def b__law_detour : En → Option Out :=
      (mSeq (mFor (fun E => ((mUn lenD (mVarT 1)) E).bind rg1) (gM 3) (mSeq (mSet 4 (mBin ixD (mCall 2 m__law_step (mCons (mVar 0) (mCons (mBin ixD (mVarT 1) (mVarT 3)) mNil))) (mC (.int 1))))
      (mSeq (mIfS (fun E => ((mBin eqD (mVarT 4) (mBin ixD (mBin ixD (mVarT 0) (mVarT 2)) (mC (.int 0)))) E).bind blOf) (mRetF (fun E => ((mList (fun E => ((mList (fun E => (((mVarT 1) E).bind lstOf).bind fun ds => ((fun _ => some none) E).bind fun l => ((fun E => ((mBin addD (mVarT 3) (mC (.int 1))) E).bind inOf) E).map fun h => cutD ds l h)) E).bind fun x => ((mList (mLst (mCons (mTup (mCons (mVar 2) (mCons (mC (.str "high")) mNil))) (mCons (mTup (mCons (mVar 2) (mCons (mC (.str "low")) mNil))) mNil)))) E).bind fun y => catD x y)) E).bind fun x => ((mList (fun E => (((mVarT 1) E).bind lstOf).bind fun ds => ((fun E => ((mBin addD (mVarT 3) (mC (.int 1))) E).bind inOf) E).bind fun l => ((fun _ => some none) E).map fun h => cutD ds l h)) E).bind fun y => catD x y)) mNext)
      (mIfS (fun E => ((mBin eqD (mVarT 4) (mBin ixD (mBin ixD (mVarT 0) (mVarT 2)) (mC (.int 1)))) E).bind blOf) (mRetF (fun E => ((mList (fun E => ((mList (fun E => (((mVarT 1) E).bind lstOf).bind fun ds => ((fun _ => some none) E).bind fun l => ((fun E => ((mBin addD (mVarT 3) (mC (.int 1))) E).bind inOf) E).map fun h => cutD ds l h)) E).bind fun x => ((mList (mLst (mCons (mTup (mCons (mVar 2) (mCons (mC (.str "low")) mNil))) (mCons (mTup (mCons (mVar 2) (mCons (mC (.str "high")) mNil))) mNil)))) E).bind fun y => catD x y)) E).bind fun x => ((mList (fun E => (((mVarT 1) E).bind lstOf).bind fun ds => ((fun E => ((mBin addD (mVarT 3) (mC (.int 1))) E).bind inOf) E).bind fun l => ((fun _ => some none) E).map fun h => cutD ds l h)) E).bind fun y => catD x y)) mNext))))
      (mRet (mVarT 1)))
def m__law_detour : List D → Option D := callM 3 5 b__law_detour
theorem fn__law_detour {f : Addr} {fd : FuncData} (F : FunD K "_law_detour" "_law_detour" (defArgs s__law_detour) (defBody s__law_detour) (defScope s__law_detour) [] [] f fd) (c__law_step : Cal P w K mg base "_law_step" 1 2 m__law_step) (h_len : mg "len" = none) (h_range : mg "range" = none) : FnOk P w K mg base CX0 2 f fd ["facts", "steps", "k"] (spD K 3 m__law_detour) :=
  fn_mk (N := N__law_detour) (m := b__law_detour) F sc__law_detour rfl (fun cdv A outer s H E hr =>
      (dss_cons (ds_for PassesOwn.never rfl (di_range1 h_range (DE.t (de_len h_len (dt_var 1)))) (dg_name 3 sc__law_detour.nd) (dss_cons (ds_set 4 sc__law_detour.nd (de_ix (DE.t (de_call c__law_step (hr.mono (by decide)) (da_cons (de_var 0) (da_cons (de_ix (dt_var 1) (dt_var 3)) da_nil)))) (DE.t de_int)))
      (dss_cons (ds_if (db_cmp (op_eqAll hr) od_eq (dt_var 4) (DE.t (de_ix (DE.t (de_ix (dt_var 0) (dt_var 2))) (DE.t de_int)))) (dss_one (ds_retF (df_add (DF.t (df_add (DF.t (df_slice (dt_var 1) do_none (do_some (DE.t (de_add (dt_var 3) (DE.t de_int)))))) (DF.t (df_lst (da_cons (de_tup (da_cons (de_var 2) (da_cons de_str da_nil))) (da_cons (de_tup (da_cons (de_var 2) (da_cons de_str da_nil))) da_nil)))))) (DF.t (df_slice (dt_var 1) (do_some (DE.t (de_add (dt_var 3) (DE.t de_int)))) do_none))))) dss_nil)
      (dss_one (ds_if (db_cmp (op_eqAll hr) od_eq (dt_var 4) (DE.t (de_ix (DE.t (de_ix (dt_var 0) (dt_var 2))) (DE.t de_int)))) (dss_one (ds_retF (df_add (DF.t (df_add (DF.t (df_slice (dt_var 1) do_none (do_some (DE.t (de_add (dt_var 3) (DE.t de_int)))))) (DF.t (df_lst (da_cons (de_tup (da_cons (de_var 2) (da_cons de_str da_nil))) (da_cons (de_tup (da_cons (de_var 2) (da_cons de_str da_nil))) da_nil)))))) (DF.t (df_slice (dt_var 1) (do_some (DE.t (de_add (dt_var 3) (DE.t de_int)))) do_none))))) dss_nil)))))
      (dss_one (ds_ret (dt_var 1)))))
theorem bd__law_detour (kV doc pm : Value) (an : Option Addr) (cdv ct : Value) (us : List Value) (hl : us.length = ["facts", "steps", "k"].length) : bindArgs (PySem.W.fnOf "_law_detour" "_law_detour" (defArgs s__law_detour) (defBody s__law_detour) (defScope s__law_detour) .none kV doc pm an cdv ct) ⟨us, []⟩ = pure ((["facts", "steps", "k"] : List Str).zip us) := match us, hl with | [_, _, _], _ => rfl
theorem cal__law_detour (F : Stands K mg "_law_detour" s__law_detour) (c__law_step : Cal P w K mg base "_law_step" 1 2 m__law_step) (h_len : mg "len" = none) (h_range : mg "range" = none) : Cal P w K mg base "_law_detour" 2 3 m__law_detour :=
  cal_of F bd__law_detour fun F => fn__law_detour F c__law_step h_len h_range

abbrev s__law_walk : Stmt := topS 23
abbrev N__law_walk : List Str := ["script", "facts", "start", "digits", "steps", "at", "j", "ups", "downs", "pick", "k"]
theorem sc__law_walk : FnScope N__law_walk ["script", "facts", "start"] (defScope s__law_walk) := ⟨rfl, rfl, rfl, by decide +kernel, rfl, by decide +kernel, by decide +kernel⟩
def b__law_walk : En → Option Out :=
      (mSeq (mSet 3 (mCall 3 m__law_digits (mCons (mVar 0) (mCons (mC (.int 8)) (mCons (mC (.int 9)) mNil)))))
      (mSeq (mSetO 4 (mLst mNil))
      (mSeq (mSet 5 (mVar 2))
      (mSeq (mFor (fun E => ((mBin addD (mC (.int 1)) (mBin (intOpC (fun _ j => decide (0 < j)) fun i j => .int (i % j)) (mUn intD (mBin ixD (mVarT 3) (mC (.int 0)))) (mC (.int 8)))) E).bind rg1) (gM 6) (mSeq (mSet 7 (mList (mComp [10] (fun E => ((mUn lenD (mVarT 1)) E).bind rg1) (gM 10) (mAnd (fun E => ((mBin eqD (mBin ixD (mBin ixD (mVarT 1) (mVarT 10)) (mC (.int 0))) (mVarT 5)) E).bind blOf) (fun E => ((mBin ixD (mBin ixD (mVarT 1) (mVarT 10)) (mC (.int 3))) E).map (fun d => !isN d))) (mVar 10))))
      (mSeq (mSet 8 (mList (mComp [10] (fun E => ((mUn lenD (mVarT 1)) E).bind rg1) (gM 10) (mAnd (fun E => ((mBin eqD (mBin ixD (mBin ixD (mVarT 1) (mVarT 10)) (mC (.int 1))) (mVarT 5)) E).bind blOf) (fun E => ((mBin ixD (mBin ixD (mVarT 1) (mVarT 10)) (mC (.int 2))) E).map (fun d => !isN d))) (mVar 10))))
      (mIfS (fun E => ((mBin (intOp fun i j => .bl (decide (j < i))) (mBin addD (mUn lenD (mVarT 7)) (mUn lenD (mVarT 8))) (mC (.int 0))) E).bind blOf) (mSeq (mSet 9 (mBin (intOpC (fun _ j => decide (0 < j)) fun i j => .int (i % j)) (mUn intD (mBin ixD (mVarT 3) (mBin addD (mC (.int 1)) (mVarT 6)))) (mBin addD (mUn lenD (mVarT 7)) (mUn lenD (mVarT 8)))))
      (mIfS (fun E => ((mBin (intOp fun i j => .bl (decide (i < j))) (mVarT 9) (mUn lenD (mVarT 7))) E).bind blOf) (mSeq (mApp 4 (mTup (mCons (mBin ixD (mVarT 7) (mVarT 9)) (mCons (mC (.str "high")) mNil))))
      (mSet 5 (mBin ixD (mBin ixD (mVarT 1) (mBin ixD (mVarT 7) (mVarT 9))) (mC (.int 1))))) (mSeq (mApp 4 (mTup (mCons (mBin ixD (mVarT 8) (mBin (intOp fun i j => .int (i - j)) (mVarT 9) (mUn lenD (mVarT 7)))) (mCons (mC (.str "low")) mNil))))
      (mSet 5 (mBin ixD (mBin ixD (mVarT 1) (mBin ixD (mVarT 8) (mBin (intOp fun i j => .int (i - j)) (mVarT 9) (mUn lenD (mVarT 7))))) (mC (.int 0))))))) mNext))))
      (mRetO 4)))))
def m__law_walk : List D → Option D := callM 3 11 b__law_walk
theorem fn__law_walk {f : Addr} {fd : FuncData} (F : FunD K "_law_walk" "_law_walk" (defArgs s__law_walk) (defBody s__law_walk) (defScope s__law_walk) [] [] f fd) (c__law_digits : Cal P w K mg base "_law_digits" 3 3 m__law_digits) (h_int : mg "int" = none) (h_range : mg "range" = none) (h_len : mg "len" = none) : FnOk P w K mg base CX0 4 f fd ["script", "facts", "start"] (spD K 3 m__law_walk) :=
  fn_mk (N := N__law_walk) (m := b__law_walk) F sc__law_walk rfl (fun cdv A outer s H E hr =>
      (dss_cons (ds_set 3 sc__law_walk.nd (de_call c__law_digits (hr.mono (by decide)) (da_cons (de_var 0) (da_cons de_int (da_cons de_int da_nil)))))
      (dss_cons (ds_setO 4 sc__law_walk.nd (df_lst da_nil))
      (dss_cons (ds_set 5 sc__law_walk.nd (de_var 2))
      (dss_cons (ds_for PassesOwn.never rfl (di_range1 h_range (DE.t (de_add (DE.t de_int) (DE.t (de_mod (DE.t (de_int1 h_int (DE.t (de_ix (dt_var 3) (DE.t de_int))))) (DE.t de_int)))))) (dg_name 6 sc__law_walk.nd) (dss_cons (ds_setLcF 7 (own := [("k", 10)]) rfl sc__law_walk.nd (DI.t (di_range1 h_range (DE.t (de_len h_len (dt_var 1))))) (blkOk_by (N := N__law_walk) (sc := defScope s__law_walk) (by decide +kernel)) (by decide) (fun _ _ _ _ _ => (dg_name 10 sc__law_walk.nd)) (fun _ _ _ _ _ => (dts_one (DW.toB (dw_and (db_cmp (op_eqAll hr) od_eq (DE.t (de_ix (DE.t (de_ix (dt_var 1) (dt_var 10))) (DE.t de_int))) (dt_var 5)) (dw_and1 (db_notN (DE.t (de_ix (DE.t (de_ix (dt_var 1) (dt_var 10))) (DE.t de_int))))))))) (fun _ _ _ _ _ => (de_var 10)) (sw_true rfl rfl rfl (by decide +kernel)))
      (dss_cons (ds_setLcF 8 (own := [("k", 10)]) rfl sc__law_walk.nd (DI.t (di_range1 h_range (DE.t (de_len h_len (dt_var 1))))) (blkOk_by (N := N__law_walk) (sc := defScope s__law_walk) (by decide +kernel)) (by decide) (fun _ _ _ _ _ => (dg_name 10 sc__law_walk.nd)) (fun _ _ _ _ _ => (dts_one (DW.toB (dw_and (db_cmp (op_eqAll hr) od_eq (DE.t (de_ix (DE.t (de_ix (dt_var 1) (dt_var 10))) (DE.t de_int))) (dt_var 5)) (dw_and1 (db_notN (DE.t (de_ix (DE.t (de_ix (dt_var 1) (dt_var 10))) (DE.t de_int))))))))) (fun _ _ _ _ _ => (de_var 10)) (sw_true rfl rfl rfl (by decide +kernel)))
      (dss_one (ds_if (db_cmp op_gt od_gt (DE.t (de_add (DE.t (de_len h_len (dt_var 7))) (DE.t (de_len h_len (dt_var 8))))) (DE.t de_int)) (dss_cons (ds_set 9 sc__law_walk.nd (de_mod (DE.t (de_int1 h_int (DE.t (de_ix (dt_var 3) (DE.t (de_add (DE.t de_int) (dt_var 6))))))) (DE.t (de_add (DE.t (de_len h_len (dt_var 7))) (DE.t (de_len h_len (dt_var 8)))))))
      (dss_one (ds_if (db_cmp op_lt od_lt (dt_var 9) (DE.t (de_len h_len (dt_var 7)))) (dss_cons (ds_app 4 (de_tup (da_cons (de_ix (dt_var 7) (dt_var 9)) (da_cons de_str da_nil))))
      (dss_one (ds_set 5 sc__law_walk.nd (de_ix (DE.t (de_ix (dt_var 1) (DE.t (de_ix (dt_var 7) (dt_var 9))))) (DE.t de_int))))) (dss_cons (ds_app 4 (de_tup (da_cons (de_ix (dt_var 8) (DE.t (de_sub (dt_var 9) (DE.t (de_len h_len (dt_var 7)))))) (da_cons de_str da_nil))))
      (dss_one (ds_set 5 sc__law_walk.nd (de_ix (DE.t (de_ix (dt_var 1) (DE.t (de_ix (dt_var 8) (DE.t (de_sub (dt_var 9) (DE.t (de_len h_len (dt_var 7))))))))) (DE.t de_int)))))))) dss_nil)))))
      (dss_one (ds_retO 4)))))))
theorem bd__law_walk (kV doc pm : Value) (an : Option Addr) (cdv ct : Value) (us : List Value) (hl : us.length = ["script", "facts", "start"].length) : bindArgs (PySem.W.fnOf "_law_walk" "_law_walk" (defArgs s__law_walk) (defBody s__law_walk) (defScope s__law_walk) .none kV doc pm an cdv ct) ⟨us, []⟩ = pure ((["script", "facts", "start"] : List Str).zip us) := match us, hl with | [_, _, _], _ => rfl
theorem cal__law_walk (F : Stands K mg "_law_walk" s__law_walk) (c__law_digits : Cal P w K mg base "_law_digits" 3 3 m__law_digits) (h_int : mg "int" = none) (h_range : mg "range" = none) (h_len : mg "len" = none) : Cal P w K mg base "_law_walk" 4 3 m__law_walk :=
  cal_of F bd__law_walk fun F => fn__law_walk F c__law_digits h_int h_range h_len

abbrev s__law_lists : Stmt := topS 24
abbrev N__law_lists : List Str := ["script", "facts", "ring", "a", "b", "many", "digits", "place", "beside", "before", "step", "behind", "side", "odd", "lists", "others", "other", "swapped", "digit", "k"]
theorem sc__law_lists : FnScope N__law_lists ["script", "facts", "ring", "a", "b"] (defScope s__law_lists) := ⟨rfl, rfl, rfl, by decide +kernel, rfl, by decide +kernel, by decide +kernel⟩
def b__law_lists : En → Option Out :=
      (mSeq (mSet 5 (mUn lenD (mVarT 1)))
      (mSeq (mSet 6 (mCall 3 m__law_digits (mCons (mVar 0) (mCons (mC (.int 9)) (mCons (mC (.int 5)) mNil)))))
      (mSeq (mSet 7 (mBin (intOpC (fun _ j => decide (0 < j)) fun i j => .int (i % j)) (mUn intD (mBin ixD (mVarT 6) (mC (.int 0)))) (mUn lenD (mVarT 2))))
      (mSeq (mSet 8 (mBin (intOpC (fun _ j => decide (0 < j)) fun i j => .int (i % j)) (mUn intD (mBin addD (mVarT 7) (mC (.int 1)))) (mUn lenD (mVarT 2))))
      (mSeq (mSet 9 (mList (fun E => (((mVarT 2) E).bind lstOf).bind fun ds => ((fun _ => some none) E).bind fun l => ((fun E => ((mVarT 7) E).bind inOf) E).map fun h => cutD ds l h)))
      (mSeq (mSet 10 (mBin ixD (mVarT 2) (mVarT 7)))
      (mSeq (mSet 11 (mList (fun E => (((mVarT 2) E).bind lstOf).bind fun ds => ((fun E => ((mBin addD (mVarT 7) (mC (.int 1))) E).bind inOf) E).bind fun l => ((fun _ => some none) E).map fun h => cutD ds l h)))
      (mSeq (mSet 12 (mBin ixD (mList (mLst (mCons (mC (.str "low")) (mCons (mC (.str "high")) mNil)))) (mUn intD (mBin eqD (mBin ixD (mVarT 10) (mC (.int 1))) (mC (.str "low"))))))
      (mSeq (mSet 13 (mBin ixD (mList (mLst (mCons (mC (.str "High")) (mCons (mC (.str "LOW")) (mCons (mC (.str "")) (mCons (mC (.str "hi")) (mCons (mC (.str "low ")) (mCons (mC (.str "highest")) mNil)))))))) (mBin (intOpC (fun _ j => decide (0 < j)) fun i j => .int (i % j)) (mUn intD (mBin ixD (mVarT 6) (mC (.int 1)))) (mC (.int 6)))))
      (mSeq (mSetO 14 (mLst (mCons (mVar 2) (mCons (mVar 2) (mCons (mList (fun E => (((mVarT 2) E).bind lstOf).bind fun ds => ((fun _ => some none) E).bind fun l => ((fun E => ((mUn negD (mC (.int 1))) E).bind inOf) E).map fun h => cutD ds l h)) (mCons (mList (fun E => (((mVarT 2) E).bind lstOf).bind fun ds => ((fun E => ((mC (.int 1)) E).bind inOf) E).bind fun l => ((fun _ => some none) E).map fun h => cutD ds l h)) (mCons (mList (mLst mNil)) (mCons (mList (fun E => (((mVarT 2) E).bind lstOf).bind fun ds => ((fun _ => some none) E).bind fun l => ((fun E => ((mC (.int 1)) E).bind inOf) E).map fun h => cutD ds l h)) (mCons (mBin addD (mVarT 11) (mVarT 9)) (mCons (mList (fun E => ((mBin addD (mVarT 11) (mVarT 9)) E).bind fun x => ((mList (mLst (mCons (mVar 10) mNil))) E).bind fun y => catD x y)) mNil))))))))))
      (mSeq (mSet 15 (mList (mLst (mCons (mTup (mCons (mBin ixD (mVarT 10) (mC (.int 0))) (mCons (mVar 12) mNil))) (mCons (mTup (mCons (mBin ixD (mVarT 10) (mC (.int 0))) (mCons (mVar 13) mNil))) (mCons (mTup (mCons (mBin (intOpC (fun _ j => decide (0 < j)) fun i j => .int (i % j)) (mUn intD (mBin ixD (mVarT 6) (mC (.int 2)))) (mVarT 5)) (mCons (mBin ixD (mVarT 10) (mC (.int 1))) mNil))) (mCons (mTup (mCons (mBin (intOpC (fun _ j => decide (0 < j)) fun i j => .int (i % j)) (mUn intD (mBin ixD (mVarT 6) (mC (.int 2)))) (mVarT 5)) (mCons (mVar 12) mNil))) mNil)))))))
      (mSeq (mSet 15 (mList (fun E => ((mVarT 15) E).bind fun x => ((mList (mLst (mCons (mTup (mCons (mBin (intOp fun i j => .int (i - j)) (mBin ixD (mVarT 10) (mC (.int 0))) (mVarT 5)) (mCons (mBin ixD (mVarT 10) (mC (.int 1))) mNil))) (mCons (mTup (mCons (mBin addD (mBin ixD (mVarT 10) (mC (.int 0))) (mVarT 5)) (mCons (mBin ixD (mVarT 10) (mC (.int 1))) mNil))) (mCons (mTup (mCons (mVar 5) (mCons (mVar 12) mNil))) (mCons (mTup (mCons (mUn negD (mC (.int 1))) (mCons (mBin ixD (mVarT 10) (mC (.int 1))) mNil))) (mCons (mTup (mCons (mUn negD (mC (.int 1))) (mCons (mVar 12) mNil))) mNil))))))) E).bind fun y => catD x y)))
      (mSeq (mFor (fun E => ((mVar 15) E).bind lstOf) (gM 16) (mApp 14 (mList (fun E => ((mList (fun E => ((mVarT 9) E).bind fun x => ((mList (mLst (mCons (mVar 16) mNil))) E).bind fun y => catD x y)) E).bind fun x => ((mVarT 11) E).bind fun y => catD x y))))
      (mSeq (mSetO 17 (fun E => ((mVarT 2) E).bind seqOf))
      (mSeq (mSub 17 (mBin ixD (mVarT 2) (mVarT 8)) (mVar 7))
      (mSeq (mSub 17 (mBin ixD (mVarT 2) (mVarT 7)) (mVar 8))
      (mSeq (mFrz 17 (mSetO 14 (fun E => ((mVarT 14) E).bind fun x => ((mList (mLst (mCons (mBin addD (mVarT 9) (mVarT 11)) (mCons (mList (fun E => ((mList (fun E => ((mVarT 9) E).bind fun x => ((mList (mLst (mCons (mVar 10) (mCons (mVar 10) mNil)))) E).bind fun y => catD x y)) E).bind fun x => ((mVarT 11) E).bind fun y => catD x y)) (mCons (mVar 17) (mCons (mBin addD (mVarT 2) (mVarT 2)) (mCons (mList (fun E => ((mVarT 2) E).bind fun x => ((mList (fun E => (((mVarT 2) E).bind lstOf).bind fun ds => ((fun _ => some none) E).bind fun l => ((fun E => ((mC (.int 1)) E).bind inOf) E).map fun h => cutD ds l h)) E).bind fun y => catD x y)) (mCons (mList (fun E => (((mVarT 2) E).bind lstOf).map List.reverse)) mNil)))))))) E).bind fun y => catD x y)))
      (mSeq (mSetO 14 (fun E => ((mVarT 14) E).bind fun x => ((mList (mLst (mCons (mCall 3 m__law_walk (mCons (mVar 0) (mCons (mVar 1) (mCons (mVar 3) mNil)))) (mCons (mList (fun E => ((mList (fun E => (((mVarT 2) E).bind lstOf).bind fun ds => ((fun _ => some none) E).bind fun l => ((fun E => ((mUn negD (mC (.int 1))) E).bind inOf) E).map fun h => cutD ds l h)) E).bind fun x => ((mCall 3 m__law_walk (mCons (mVar 0) (mCons (mVar 1) (mCons (mVar 4) mNil)))) E).bind fun y => catD x y)) mNil)))) E).bind fun y => catD x y))
      (mSeq (mFor (fun E => ((mList (fun E => (((mVarT 6) E).bind lstOf).bind fun ds => ((fun E => ((mC (.int 3)) E).bind inOf) E).bind fun l => ((fun _ => some none) E).map fun h => cutD ds l h)) E).bind lstOf) (gM 18) (mSeq (mSet 19 (mBin (intOpC (fun _ j => decide (0 < j)) fun i j => .int (i % j)) (mUn intD (mVarT 18)) (mVarT 5)))
      (mSeq (mIfS (mAnd (fun E => ((mBin ixD (mBin ixD (mVarT 1) (mVarT 19)) (mC (.int 2))) E).map (fun d => !isN d)) (fun E => ((mBin ixD (mBin ixD (mVarT 1) (mVarT 19)) (mC (.int 3))) E).map (fun d => !isN d))) (mSeq (mApp 14 (mCall 3 m__law_detour (mCons (mVar 1) (mCons (mVar 2) (mCons (mVar 19) mNil)))))
      (mApp 14 (mCall 3 m__law_detour (mCons (mVar 1) (mCons (mList (fun E => (((mVarT 2) E).bind lstOf).bind fun ds => ((fun _ => some none) E).bind fun l => ((fun E => ((mUn negD (mC (.int 1))) E).bind inOf) E).map fun h => cutD ds l h)) (mCons (mVar 19) mNil)))))) mNext)
      (mSeq (mApp 14 (mList (mLst (mCons (mTup (mCons (mVar 19) (mCons (mC (.str "high")) mNil))) (mCons (mTup (mCons (mVar 19) (mCons (mC (.str "low")) mNil))) mNil)))))
      (mApp 14 (mList (mLst (mCons (mTup (mCons (mVar 19) (mCons (mC (.str "low")) mNil))) (mCons (mTup (mCons (mVar 19) (mCons (mC (.str "high")) mNil))) mNil)))))))))
      (mRetO 14))))))))))))))))))))
def m__law_lists : List D → Option D := callM 5 20 b__law_lists
theorem fn__law_lists {f : Addr} {fd : FuncData} (F : FunD K "_law_lists" "_law_lists" (defArgs s__law_lists) (defBody s__law_lists) (defScope s__law_lists) [] [] f fd) (c__law_digits : Cal P w K mg base "_law_digits" 3 3 m__law_digits) (c__law_walk : Cal P w K mg base "_law_walk" 4 3 m__law_walk) (c__law_detour : Cal P w K mg base "_law_detour" 2 3 m__law_detour) (h_len : mg "len" = none) (h_int : mg "int" = none) (h_list : mg "list" = none) : FnOk P w K mg base CX0 5 f fd ["script", "facts", "ring", "a", "b"] (spD K 5 m__law_lists) :=
  fn_mk (N := N__law_lists) (m := b__law_lists) F sc__law_lists rfl (fun cdv A outer s H E hr =>
      (dss_cons (ds_set 5 sc__law_lists.nd (de_len h_len (dt_var 1)))
      (dss_cons (ds_set 6 sc__law_lists.nd (de_call c__law_digits (hr.mono (by decide)) (da_cons (de_var 0) (da_cons de_int (da_cons de_int da_nil)))))
      (dss_cons (ds_set 7 sc__law_lists.nd (de_mod (DE.t (de_int1 h_int (DE.t (de_ix (dt_var 6) (DE.t de_int))))) (DE.t (de_len h_len (dt_var 2)))))
      (dss_cons (ds_set 8 sc__law_lists.nd (de_mod (DE.t (de_int1 h_int (DE.t (de_add (dt_var 7) (DE.t de_int))))) (DE.t (de_len h_len (dt_var 2)))))
      (dss_cons (ds_set 9 sc__law_lists.nd (DF.toE (df_slice (dt_var 2) do_none (do_some (dt_var 7)))))
      (dss_cons (ds_set 10 sc__law_lists.nd (de_ix (dt_var 2) (dt_var 7)))
      (dss_cons (ds_set 11 sc__law_lists.nd (DF.toE (df_slice (dt_var 2) (do_some (DE.t (de_add (dt_var 7) (DE.t de_int)))) do_none)))
      (dss_cons (ds_set 12 sc__law_lists.nd (de_ix (DF.t (df_lst (da_cons de_str (da_cons de_str da_nil)))) (DE.t (de_int1 h_int (DE.t (de_cmp (op_eqAll hr) od_eq (DE.t (de_ix (dt_var 10) (DE.t de_int))) (DE.t de_str)))))))
      (dss_cons (ds_set 13 sc__law_lists.nd (de_ix (DF.t (df_lst (da_cons de_str (da_cons de_str (da_cons de_str (da_cons de_str (da_cons de_str (da_cons de_str da_nil)))))))) (DE.t (de_mod (DE.t (de_int1 h_int (DE.t (de_ix (dt_var 6) (DE.t de_int))))) (DE.t de_int)))))
      (dss_cons (ds_setO 14 sc__law_lists.nd (df_lst (da_cons (de_var 2) (da_cons (de_var 2) (da_cons (DF.toE (df_slice (dt_var 2) do_none (do_some (DE.t (de_neg (DE.t de_int)))))) (da_cons (DF.toE (df_slice (dt_var 2) (do_some (DE.t de_int)) do_none)) (da_cons (DF.toE (df_lst da_nil)) (da_cons (DF.toE (df_slice (dt_var 2) do_none (do_some (DE.t de_int)))) (da_cons (de_add (dt_var 11) (dt_var 9)) (da_cons (DF.toE (df_add (DE.t (de_add (dt_var 11) (dt_var 9))) (DF.t (df_lst (da_cons (de_var 10) da_nil))))) da_nil))))))))))
      (dss_cons (ds_set 15 sc__law_lists.nd (DF.toE (df_lst (da_cons (de_tup (da_cons (de_ix (dt_var 10) (DE.t de_int)) (da_cons (de_var 12) da_nil))) (da_cons (de_tup (da_cons (de_ix (dt_var 10) (DE.t de_int)) (da_cons (de_var 13) da_nil))) (da_cons (de_tup (da_cons (de_mod (DE.t (de_int1 h_int (DE.t (de_ix (dt_var 6) (DE.t de_int))))) (dt_var 5)) (da_cons (de_ix (dt_var 10) (DE.t de_int)) da_nil))) (da_cons (de_tup (da_cons (de_mod (DE.t (de_int1 h_int (DE.t (de_ix (dt_var 6) (DE.t de_int))))) (dt_var 5)) (da_cons (de_var 12) da_nil))) da_nil)))))))
      (dss_cons (ds_set 15 sc__law_lists.nd (DF.toE (df_add (dt_var 15) (DF.t (df_lst (da_cons (de_tup (da_cons (de_sub (DE.t (de_ix (dt_var 10) (DE.t de_int))) (dt_var 5)) (da_cons (de_ix (dt_var 10) (DE.t de_int)) da_nil))) (da_cons (de_tup (da_cons (de_add (DE.t (de_ix (dt_var 10) (DE.t de_int))) (dt_var 5)) (da_cons (de_ix (dt_var 10) (DE.t de_int)) da_nil))) (da_cons (de_tup (da_cons (de_var 5) (da_cons (de_var 12) da_nil))) (da_cons (de_tup (da_cons (de_neg (DE.t de_int)) (da_cons (de_ix (dt_var 10) (DE.t de_int)) da_nil))) (da_cons (de_tup (da_cons (de_neg (DE.t de_int)) (da_cons (de_var 12) da_nil))) da_nil))))))))))
      (dss_cons (ds_for PassesOwn.never rfl (di_list (de_var 15)) (dg_name 16 sc__law_lists.nd) (dss_one (ds_app 14 (DF.toE (df_add (DF.t (df_add (dt_var 9) (DF.t (df_lst (da_cons (de_var 16) da_nil))))) (dt_var 11))))))
      (dss_cons (ds_setO 17 sc__law_lists.nd (df_list h_list (dt_var 2)))
      (dss_cons (ds_sub 17 (de_ix (dt_var 2) (dt_var 8)) (de_var 7))
      (dss_cons (ds_sub 17 (de_ix (dt_var 2) (dt_var 7)) (de_var 8))
      (dss_cons (ds_frz 17 (ds_setO 14 sc__law_lists.nd (df_add (dt_var 14) (DF.t (df_lst (da_cons (de_add (dt_var 9) (dt_var 11)) (da_cons (DF.toE (df_add (DF.t (df_add (dt_var 9) (DF.t (df_lst (da_cons (de_var 10) (da_cons (de_var 10) da_nil)))))) (dt_var 11))) (da_cons (de_var 17) (da_cons (de_add (dt_var 2) (dt_var 2)) (da_cons (DF.toE (df_add (dt_var 2) (DF.t (df_slice (dt_var 2) do_none (do_some (DE.t de_int)))))) (da_cons (DF.toE (df_rev (dt_var 2))) da_nil)))))))))))
      (dss_cons (ds_setO 14 sc__law_lists.nd (df_add (dt_var 14) (DF.t (df_lst (da_cons (de_call c__law_walk (hr.mono (by decide)) (da_cons (de_var 0) (da_cons (de_var 1) (da_cons (de_var 3) da_nil)))) (da_cons (DF.toE (df_add (DF.t (df_slice (dt_var 2) do_none (do_some (DE.t (de_neg (DE.t de_int)))))) (DE.t (de_call c__law_walk (hr.mono (by decide)) (da_cons (de_var 0) (da_cons (de_var 1) (da_cons (de_var 4) da_nil))))))) da_nil))))))
      (dss_cons (ds_for PassesOwn.never rfl (di_list (DF.toE (df_slice (dt_var 6) (do_some (DE.t de_int)) do_none))) (dg_name 18 sc__law_lists.nd) (dss_cons (ds_set 19 sc__law_lists.nd (de_mod (DE.t (de_int1 h_int (dt_var 18))) (dt_var 5)))
      (dss_cons (ds_if (DW.toB (dw_and (db_notN (DE.t (de_ix (DE.t (de_ix (dt_var 1) (dt_var 19))) (DE.t de_int)))) (dw_and1 (db_notN (DE.t (de_ix (DE.t (de_ix (dt_var 1) (dt_var 19))) (DE.t de_int))))))) (dss_cons (ds_app 14 (de_call c__law_detour (hr.mono (by decide)) (da_cons (de_var 1) (da_cons (de_var 2) (da_cons (de_var 19) da_nil)))))
      (dss_one (ds_app 14 (de_call c__law_detour (hr.mono (by decide)) (da_cons (de_var 1) (da_cons (DF.toE (df_slice (dt_var 2) do_none (do_some (DE.t (de_neg (DE.t de_int)))))) (da_cons (de_var 19) da_nil))))))) dss_nil)
      (dss_cons (ds_app 14 (DF.toE (df_lst (da_cons (de_tup (da_cons (de_var 19) (da_cons de_str da_nil))) (da_cons (de_tup (da_cons (de_var 19) (da_cons de_str da_nil))) da_nil)))))
      (dss_one (ds_app 14 (DF.toE (df_lst (da_cons (de_tup (da_cons (de_var 19) (da_cons de_str da_nil))) (da_cons (de_tup (da_cons (de_var 19) (da_cons de_str da_nil))) da_nil))))))))))
      (dss_one (ds_retO 14))))))))))))))))))))))
theorem bd__law_lists (kV doc pm : Value) (an : Option Addr) (cdv ct : Value) (us : List Value) (hl : us.length = ["script", "facts", "ring", "a", "b"].length) : bindArgs (PySem.W.fnOf "_law_lists" "_law_lists" (defArgs s__law_lists) (defBody s__law_lists) (defScope s__law_lists) .none kV doc pm an cdv ct) ⟨us, []⟩ = pure ((["script", "facts", "ring", "a", "b"] : List Str).zip us) := match us, hl with | [_, _, _, _, _], _ => rfl
theorem cal__law_lists (F : Stands K mg "_law_lists" s__law_lists) (c__law_digits : Cal P w K mg base "_law_digits" 3 3 m__law_digits) (c__law_walk : Cal P w K mg base "_law_walk" 4 3 m__law_walk) (c__law_detour : Cal P w K mg base "_law_detour" 2 3 m__law_detour) (h_len : mg "len" = none) (h_int : mg "int" = none) (h_list : mg "list" = none) : Cal P w K mg base "_law_lists" 5 5 m__law_lists :=
  cal_of F bd__law_lists fun F => fn__law_lists F c__law_digits c__law_walk c__law_detour h_len h_int h_list

abbrev s__law_is_number : Stmt := topS 25
abbrev N__law_is_number : List Str := ["value"]
theorem sc__law_is_number : FnScope N__law_is_number ["value"] (defScope s__law_is_number) := ⟨rfl, rfl, rfl, by decide +kernel, rfl, by decide +kernel, by decide +kernel⟩
def b__law_is_number : En → Option Out :=
      (mRet (mAndV (mUn (isiD "int") (mVarT 0)) (mUn (fun d => (truD d).map fun k => .bl (!k)) (mUn (isiD "bool") (mVarT 0)))))
def m__law_is_number : List D → Option D := callM 1 1 b__law_is_number
theorem fn__law_is_number {f : Addr} {fd : FuncData} (F : FunD K "_law_is_number" "_law_is_number" (defArgs s__law_is_number) (defBody s__law_is_number) (defScope s__law_is_number) [] [] f fd) (h_isinstance : mg "isinstance" = none) (h_int : mg "int" = none) (h_bool : mg "bool" = none) : FnOk P w K mg base CX0 1 f fd ["value"] (spD K 1 m__law_is_number) :=
  fn_mk (N := N__law_is_number) (m := b__law_is_number) F sc__law_is_number rfl (fun cdv A outer s H E hr =>
      (dss_one (ds_ret (DE.t (de_and (de_isi (T' := "int") h_isinstance h_int boot_int (dt_var 0)) (de_one (de_not (DE.t (de_isi (T' := "bool") h_isinstance h_bool (by decide +kernel) (dt_var 0))))))))))
theorem bd__law_is_number (kV doc pm : Value) (an : Option Addr) (cdv ct : Value) (us : List Value) (hl : us.length = ["value"].length) : bindArgs (PySem.W.fnOf "_law_is_number" "_law_is_number" (defArgs s__law_is_number) (defBody s__law_is_number) (defScope s__law_is_number) .none kV doc pm an cdv ct) ⟨us, []⟩ = pure ((["value"] : List Str).zip us) := match us, hl with | [_], _ => rfl
theorem cal__law_is_number (F : Stands K mg "_law_is_number" s__law_is_number) (h_isinstance : mg "isinstance" = none) (h_int : mg "int" = none) (h_bool : mg "bool" = none) : Cal P w K mg base "_law_is_number" 1 1 m__law_is_number :=
  cal_of F bd__law_is_number fun F => fn__law_is_number F h_isinstance h_int h_bool

abbrev s__law_same : Stmt := topS 26
abbrev N__law_same : List Str := ["told", "due"]
theorem sc__law_same : FnScope N__law_same ["told", "due"] (defScope s__law_same) := ⟨rfl, rfl, rfl, by decide +kernel, rfl, by decide +kernel, by decide +kernel⟩
def b__law_same : En → Option Out :=
      (mRet (mAndV (mUn (isiD "bool") (mVarT 0)) (mBin eqD (mVarT 0) (mVarT 1))))
def m__law_same : List D → Option D := callM 2 2 b__law_same
theorem fn__law_same {f : Addr} {fd : FuncData} (F : FunD K "_law_same" "_law_same" (defArgs s__law_same) (defBody s__law_same) (defScope s__law_same) [] [] f fd) (h_isinstance : mg "isinstance" = none) (h_bool : mg "bool" = none) : FnOk P w K mg base CX0 1 f fd ["told", "due"] (spD K 2 m__law_same) :=
  fn_mk (N := N__law_same) (m := b__law_same) F sc__law_same rfl (fun cdv A outer s H E hr =>
      (dss_one (ds_ret (DE.t (de_and (de_isi (T' := "bool") h_isinstance h_bool (by decide +kernel) (dt_var 0)) (de_one (de_cmp (op_eqAll hr) od_eq (dt_var 0) (dt_var 1))))))))
theorem bd__law_same (kV doc pm : Value) (an : Option Addr) (cdv ct : Value) (us : List Value) (hl : us.length = ["told", "due"].length) : bindArgs (PySem.W.fnOf "_law_same" "_law_same" (defArgs s__law_same) (defBody s__law_same) (defScope s__law_same) .none kV doc pm an cdv ct) ⟨us, []⟩ = pure ((["told", "due"] : List Str).zip us) := match us, hl with | [_, _], _ => rfl
theorem cal__law_same (F : Stands K mg "_law_same" s__law_same) (h_isinstance : mg "isinstance" = none) (h_bool : mg "bool" = none) : Cal P w K mg base "_law_same" 1 2 m__law_same :=
  cal_of F bd__law_same fun F => fn__law_same F h_isinstance h_bool

abbrev s__law_steps_judged : Stmt := topS 27
abbrev N__law_steps_judged : List Str := ["facts", "a", "b", "steps", "pairs", "total", "exist", "step", "rows", "given", "pair", "parts", "told"]
theorem sc__law_steps_judged : FnScope N__law_steps_judged ["facts", "a", "b", "steps"] (defScope s__law_steps_judged) := ⟨rfl, rfl, rfl, by decide +kernel, rfl, by decide +kernel, by decide +kernel⟩
def b__law_steps_judged : En → Option Out :=
      (mSeq (mSetO 4 (mLst (mCons (mTup (mCons (mVar 1) (mCons (mVar 2) mNil))) (mCons (mTup (mCons (mVar 2) (mCons (mVar 1) mNil))) (mCons (mTup (mCons (mVar 1) (mCons (mVar 1) mNil))) (mCons (mTup (mCons (mVar 2) (mCons (mVar 2) mNil))) mNil))))))
      (mSeq (mSet 5 (mC (.int 0)))
      (mSeq (mSet 6 (mC (.bl true)))
      (mSeq (mFor (fun E => ((mVar 3) E).bind lstOf) (gM 7) (mSeq (mSet 11 (mCall 2 m__law_step (mCons (mVar 0) (mCons (mVar 7) mNil))))
      (mIfS (fun E => ((mVarT 11) E).map isN) (mSet 6 (mC (.bl false))) (mSet 5 (mBin addD (mVarT 5) (mBin ixD (mVarT 11) (mC (.int 2))))))))
      (mSeq (mIfS (mAnd (fun E => ((mVarT 6) E).bind truD) (fun E => ((mBin (intOp fun i j => .bl (decide (j < i))) (mUn lenD (mVarT 3)) (mC (.int 0))) E).bind blOf)) (mApp 4 (mTup (mCons (mBin ixD (mCall 2 m__law_step (mCons (mVar 0) (mCons (mBin ixD (mVarT 3) (mC (.int 0))) mNil))) (mC (.int 0))) (mCons (mBin ixD (mCall 2 m__law_step (mCons (mVar 0) (mCons (mBin ixD (mVarT 3) (mBin (intOp fun i j => .int (i - j)) (mUn lenD (mVarT 3)) (mC (.int 1)))) mNil))) (mC (.int 1))) mNil)))) mNext)
      (mSeq (mSet 8 (mList (fun E => ((mVarT 0) E).bind seqOf)))
      (mSeq (mSet 9 (mList (fun E => ((mVarT 3) E).bind seqOf)))
      (mSeq (mFrz 4 (mFor (fun E => ((mVar 4) E).bind lstOf) (gM 10) (mIfS (mNot (fun E => ((mCall 2 m__law_same (mCons (mCall 4 m_is_way (mCons (mVar 8) (mCons (mBin ixD (mVarT 10) (mC (.int 0))) (mCons (mBin ixD (mVarT 10) (mC (.int 1))) (mCons (mVar 9) mNil))))) (mCons (mCall 4 m__law_way_due (mCons (mVar 0) (mCons (mBin ixD (mVarT 10) (mC (.int 0))) (mCons (mBin ixD (mVarT 10) (mC (.int 1))) (mCons (mVar 3) mNil))))) mNil))) E).bind truD)) (mRet (mC (.bl false))) mNext)))
      (mSeq (mIfS (mNot (fun E => ((mCall 2 m__law_same (mCons (mCall 2 m_is_low_ring (mCons (mVar 8) (mCons (mVar 9) mNil))) (mCons (mCall 2 m__law_low_due (mCons (mVar 0) (mCons (mVar 3) mNil))) mNil))) E).bind truD)) (mRet (mC (.bl false))) mNext)
      (mSeq (mIfS (fun E => ((mVarT 6) E).bind truD) (mSeq (mSet 12 (mCall 2 m_way_cost (mCons (mVar 8) (mCons (mVar 9) mNil))))
      (mIfS (mOr (mNot (fun E => ((mCall 1 m__law_is_number (mCons (mVar 12) mNil)) E).bind truD)) (fun E => ((mBin neD (mVarT 12) (mVarT 5)) E).bind blOf)) (mRet (mC (.bl false))) mNext)) mNext)
      (mRet (mAndV (mBin eqD (mVarT 8) (mVarT 0)) (mBin eqD (mVarT 9) (mVarT 3))))))))))))))
def m__law_steps_judged : List D → Option D := callM 4 13 b__law_steps_judged
theorem fn__law_steps_judged {f : Addr} {fd : FuncData} (F : FunD K "_law_steps_judged" "_law_steps_judged" (defArgs s__law_steps_judged) (defBody s__law_steps_judged) (defScope s__law_steps_judged) [] [] f fd) (c__law_step : Cal P w K mg base "_law_step" 1 2 m__law_step) (c__law_same : Cal P w K mg base "_law_same" 1 2 m__law_same) (c__law_way_due : Cal P w K mg base "_law_way_due" 3 4 m__law_way_due) (c_is_way : Cal P w K mg base "is_way" 3 4 m_is_way) (c__law_low_due : Cal P w K mg base "_law_low_due" 3 2 m__law_low_due) (c_is_low_ring : Cal P w K mg base "is_low_ring" 3 2 m_is_low_ring) (c_way_cost : Cal P w K mg base "way_cost" 2 2 m_way_cost) (c__law_is_number : Cal P w K mg base "_law_is_number" 1 1 m__law_is_number) (h_len : mg "len" = none) (h_list : mg "list" = none) : FnOk P w K mg base CX0 4 f fd ["facts", "a", "b", "steps"] (spD K 4 m__law_steps_judged) :=
  fn_mk (N := N__law_steps_judged) (m := b__law_steps_judged) F sc__law_steps_judged rfl (fun cdv A outer s H E hr =>
      (dss_cons (ds_setO 4 sc__law_steps_judged.nd (df_lst (da_cons (de_tup (da_cons (de_var 1) (da_cons (de_var 2) da_nil))) (da_cons (de_tup (da_cons (de_var 2) (da_cons (de_var 1) da_nil))) (da_cons (de_tup (da_cons (de_var 1) (da_cons (de_var 1) da_nil))) (da_cons (de_tup (da_cons (de_var 2) (da_cons (de_var 2) da_nil))) da_nil))))))
      (dss_cons (ds_set 5 sc__law_steps_judged.nd de_int)
      (dss_cons (ds_set 6 sc__law_steps_judged.nd de_bl)
      (dss_cons (ds_for PassesOwn.never rfl (di_list (de_var 3)) (dg_name 7 sc__law_steps_judged.nd) (dss_cons (ds_set 11 sc__law_steps_judged.nd (de_call c__law_step (hr.mono (by decide)) (da_cons (de_var 0) (da_cons (de_var 7) da_nil))))
      (dss_one (ds_if (db_isN (dt_var 11)) (dss_one (ds_set 6 sc__law_steps_judged.nd de_bl)) (dss_one (ds_set 5 sc__law_steps_judged.nd (de_add (dt_var 5) (DE.t (de_ix (dt_var 11) (DE.t de_int))))))))))
      (dss_cons (ds_if (DW.toB (dw_and (db_tru (dt_var 6)) (dw_and1 (db_cmp op_gt od_gt (DE.t (de_len h_len (dt_var 3))) (DE.t de_int))))) (dss_one (ds_app 4 (de_tup (da_cons (de_ix (DE.t (de_call c__law_step (hr.mono (by decide)) (da_cons (de_var 0) (da_cons (de_ix (dt_var 3) (DE.t de_int)) da_nil)))) (DE.t de_int)) (da_cons (de_ix (DE.t (de_call c__law_step (hr.mono (by decide)) (da_cons (de_var 0) (da_cons (de_ix (dt_var 3) (DE.t (de_sub (DE.t (de_len h_len (dt_var 3))) (DE.t de_int)))) da_nil)))) (DE.t de_int)) da_nil))))) dss_nil)
      (dss_cons (ds_set 8 sc__law_steps_judged.nd (DF.toE (df_list h_list (dt_var 0))))
      (dss_cons (ds_set 9 sc__law_steps_judged.nd (DF.toE (df_list h_list (dt_var 3))))
      (dss_cons (ds_frz 4 (ds_for PassesOwn.never rfl (di_list (de_var 4)) (dg_name 10 sc__law_steps_judged.nd) (dss_one (ds_if (db_not (db_tru (DE.t (de_call c__law_same (hr.mono (by decide)) (da_cons (de_call c_is_way (hr.mono (by decide)) (da_cons (de_var 8) (da_cons (de_ix (dt_var 10) (DE.t de_int)) (da_cons (de_ix (dt_var 10) (DE.t de_int)) (da_cons (de_var 9) da_nil))))) (da_cons (de_call c__law_way_due (hr.mono (by decide)) (da_cons (de_var 0) (da_cons (de_ix (dt_var 10) (DE.t de_int)) (da_cons (de_ix (dt_var 10) (DE.t de_int)) (da_cons (de_var 3) da_nil))))) da_nil)))))) (dss_one (ds_ret (DE.t de_bl))) dss_nil))))
      (dss_cons (ds_if (db_not (db_tru (DE.t (de_call c__law_same (hr.mono (by decide)) (da_cons (de_call c_is_low_ring (hr.mono (by decide)) (da_cons (de_var 8) (da_cons (de_var 9) da_nil))) (da_cons (de_call c__law_low_due (hr.mono (by decide)) (da_cons (de_var 0) (da_cons (de_var 3) da_nil))) da_nil)))))) (dss_one (ds_ret (DE.t de_bl))) dss_nil)
      (dss_cons (ds_if (db_tru (dt_var 6)) (dss_cons (ds_set 12 sc__law_steps_judged.nd (de_call c_way_cost (hr.mono (by decide)) (da_cons (de_var 8) (da_cons (de_var 9) da_nil))))
      (dss_one (ds_if (DW.toB (dw_or (db_not (db_tru (DE.t (de_call c__law_is_number (hr.mono (by decide)) (da_cons (de_var 12) da_nil))))) (dw_or1 (db_cmp (op_neAll hr) od_ne (dt_var 12) (dt_var 5))))) (dss_one (ds_ret (DE.t de_bl))) dss_nil))) dss_nil)
      (dss_one (ds_ret (DE.t (de_and (de_cmp (op_eqAll hr) od_eq (dt_var 8) (dt_var 0)) (de_one (de_cmp (op_eqAll hr) od_eq (dt_var 9) (dt_var 3))))))))))))))))))
theorem bd__law_steps_judged (kV doc pm : Value) (an : Option Addr) (cdv ct : Value) (us : List Value) (hl : us.length = ["facts", "a", "b", "steps"].length) : bindArgs (PySem.W.fnOf "_law_steps_judged" "_law_steps_judged" (defArgs s__law_steps_judged) (defBody s__law_steps_judged) (defScope s__law_steps_judged) .none kV doc pm an cdv ct) ⟨us, []⟩ = pure ((["facts", "a", "b", "steps"] : List Str).zip us) := match us, hl with | [_, _, _, _], _ => rfl
theorem cal__law_steps_judged (F : Stands K mg "_law_steps_judged" s__law_steps_judged) (c__law_step : Cal P w K mg base "_law_step" 1 2 m__law_step) (c__law_same : Cal P w K mg base "_law_same" 1 2 m__law_same) (c__law_way_due : Cal P w K mg base "_law_way_due" 3 4 m__law_way_due) (c_is_way : Cal P w K mg base "is_way" 3 4 m_is_way) (c__law_low_due : Cal P w K mg base "_law_low_due" 3 2 m__law_low_due) (c_is_low_ring : Cal P w K mg base "is_low_ring" 3 2 m_is_low_ring) (c_way_cost : Cal P w K mg base "way_cost" 2 2 m_way_cost) (c__law_is_number : Cal P w K mg base "_law_is_number" 1 1 m__law_is_number) (h_len : mg "len" = none) (h_list : mg "list" = none) : Cal P w K mg base "_law_steps_judged" 4 4 m__law_steps_judged :=
  cal_of F bd__law_steps_judged fun F => fn__law_steps_judged F c__law_step c__law_same c__law_way_due c_is_way c__law_low_due c_is_low_ring c_way_cost c__law_is_number h_len h_list

abbrev s__law_judged_anew : Stmt := topS 28
abbrev N__law_judged_anew : List Str := ["script", "facts", "ring", "a", "b", "rows", "given", "way", "step", "fact", "cost", "change", "now"]
theorem sc__law_judged_anew : FnScope N__law_judged_anew ["script", "facts", "ring", "a", "b"] (defScope s__law_judged_anew) := ⟨rfl, rfl, rfl, by decide +kernel, rfl, by decide +kernel, by decide +kernel⟩
def b__law_judged_anew : En → Option Out :=
      (mSeq (mSetO 5 (fun E => ((mVarT 1) E).bind seqOf))
      (mSeq (mSet 6 (mList (fun E => ((mVarT 2) E).bind seqOf)))
      (mSeq (mSet 7 (mList (fun E => (((mVarT 2) E).bind lstOf).bind fun ds => ((fun _ => some none) E).bind fun l => ((fun E => ((mUn negD (mC (.int 1))) E).bind inOf) E).map fun h => cutD ds l h)))
      (mSeq (mSet 8 (mBin ixD (mVarT 2) (mCall 4 m__law_draw (mCons (mVar 0) (mCons (mC (.int 10)) (mCons (mC (.int 0)) (mCons (mUn lenD (mVarT 2)) mNil)))))))
      (mSeq (mSet 9 (mBin ixD (mVarT 1) (mBin ixD (mVarT 8) (mC (.int 0)))))
      (mSeq (mSet 10 (mBin ixD (mCall 2 m__law_step (mCons (mVar 1) (mCons (mVar 8) mNil))) (mC (.int 2))))
      (mSeq (mFor (fun E => ((mList (mLst (mCons (mVar 10) (mCons (mC .non) (mCons (mBin addD (mVarT 10) (mC (.int 1))) (mCons (mBin (intOp fun i j => .int (i - j)) (mVarT 10) (mC (.int 1))) (mCons (mC .non) (mCons (mVar 10) mNil)))))))) E).bind lstOf) (gM 11) (mSeq (mIfS (fun E => ((mBin eqD (mBin ixD (mVarT 8) (mC (.int 1))) (mC (.str "high"))) E).bind blOf) (mSub 5 (mTup (mCons (mBin ixD (mVarT 9) (mC (.int 0))) (mCons (mBin ixD (mVarT 9) (mC (.int 1))) (mCons (mBin ixD (mVarT 9) (mC (.int 2))) (mCons (mVar 11) mNil))))) (mBin ixD (mVarT 8) (mC (.int 0)))) (mIfS (fun E => ((mVarT 11) E).map isN) (mSub 5 (mTup (mCons (mBin ixD (mVarT 9) (mC (.int 0))) (mCons (mBin ixD (mVarT 9) (mC (.int 1))) (mCons (mC .non) (mCons (mBin ixD (mVarT 9) (mC (.int 3))) mNil))))) (mBin ixD (mVarT 8) (mC (.int 0)))) (mSub 5 (mTup (mCons (mBin ixD (mVarT 9) (mC (.int 0))) (mCons (mBin ixD (mVarT 9) (mC (.int 1))) (mCons (mBin (intOp fun i j => .int (i - j)) (mC (.int 0)) (mVarT 11)) (mCons (mBin ixD (mVarT 9) (mC (.int 3))) mNil))))) (mBin ixD (mVarT 8) (mC (.int 0))))))
      (mSeq (mSet 12 (mList (fun E => ((mVarT 5) E).bind seqOf)))
      (mSeq (mIfS (mNot (fun E => ((mCall 2 m__law_same (mCons (mCallT 2 m_is_low_ring (mCons (mVarT 5) (mCons (mVarT 6) mNil))) (mCons (mCall 2 m__law_low_due (mCons (mVar 12) (mCons (mVar 2) mNil))) mNil))) E).bind truD)) (mRet (mC (.bl false))) mNext)
      (mSeq (mIfS (mNot (fun E => ((mCall 2 m__law_same (mCons (mCallT 4 m_is_way (mCons (mVarT 5) (mCons (mVarT 3) (mCons (mVarT 4) (mCons (mVarT 7) mNil))))) (mCons (mCall 4 m__law_way_due (mCons (mVar 12) (mCons (mVar 3) (mCons (mVar 4) (mCons (mList (fun E => (((mVarT 2) E).bind lstOf).bind fun ds => ((fun _ => some none) E).bind fun l => ((fun E => ((mUn negD (mC (.int 1))) E).bind inOf) E).map fun h => cutD ds l h)) mNil))))) mNil))) E).bind truD)) (mRet (mC (.bl false))) mNext)
      (mSeq (mIfS (mAnd (fun E => ((mVarT 11) E).map (fun d => !isN d)) (fun E => ((mBin neD (mCallT 2 m_way_cost (mCons (mVarT 5) (mCons (mVarT 6) mNil))) (mBin ixD (mCall 2 m__law_chain (mCons (mVar 12) (mCons (mVar 2) mNil))) (mC (.int 1)))) E).bind blOf)) (mRet (mC (.bl false))) mNext)
      (mIfS (mOr (fun E => ((mBin neD (mVarT 5) (mVarT 12)) E).bind blOf) (mOr (fun E => ((mBin neD (mVarT 6) (mVarT 2)) E).bind blOf) (fun E => ((mBin neD (mVarT 7) (mList (fun E => (((mVarT 2) E).bind lstOf).bind fun ds => ((fun _ => some none) E).bind fun l => ((fun E => ((mUn negD (mC (.int 1))) E).bind inOf) E).map fun h => cutD ds l h))) E).bind blOf))) (mRet (mC (.bl false))) mNext)))))))
      (mRet (mC (.bl true))))))))))
def m__law_judged_anew : List D → Option D := callM 5 13 b__law_judged_anew
theorem fn__law_judged_anew {f : Addr} {fd : FuncData} (F : FunD K "_law_judged_anew" "_law_judged_anew" (defArgs s__law_judged_anew) (defBody s__law_judged_anew) (defScope s__law_judged_anew) [] [] f fd) (c__law_draw : Cal P w K mg base "_law_draw" 2 4 m__law_draw) (c__law_step : Cal P w K mg base "_law_step" 1 2 m__law_step) (c__law_same : Cal P w K mg base "_law_same" 1 2 m__law_same) (c__law_low_due : Cal P w K mg base "_law_low_due" 3 2 m__law_low_due) (c_is_low_ring : Cal P w K mg base "is_low_ring" 3 2 m_is_low_ring) (c__law_way_due : Cal P w K mg base "_law_way_due" 3 4 m__law_way_due) (c_is_way : Cal P w K mg base "is_way" 3 4 m_is_way) (c_way_cost : Cal P w K mg base "way_cost" 2 2 m_way_cost) (c__law_chain : Cal P w K mg base "_law_chain" 2 2 m__law_chain) (h_list : mg "list" = none) (h_len : mg "len" = none) : FnOk P w K mg base CX0 4 f fd ["script", "facts", "ring", "a", "b"] (spD K 5 m__law_judged_anew) :=
  fn_mk (N := N__law_judged_anew) (m := b__law_judged_anew) F sc__law_judged_anew rfl (fun cdv A outer s H E hr =>
      (dss_cons (ds_setO 5 sc__law_judged_anew.nd (df_list h_list (dt_var 1)))
      (dss_cons (ds_set 6 sc__law_judged_anew.nd (DF.toE (df_list h_list (dt_var 2))))
      (dss_cons (ds_set 7 sc__law_judged_anew.nd (DF.toE (df_slice (dt_var 2) do_none (do_some (DE.t (de_neg (DE.t de_int)))))))
      (dss_cons (ds_set 8 sc__law_judged_anew.nd (de_ix (dt_var 2) (DE.t (de_call c__law_draw (hr.mono (by decide)) (da_cons (de_var 0) (da_cons de_int (da_cons de_int (da_cons (de_len h_len (dt_var 2)) da_nil))))))))
      (dss_cons (ds_set 9 sc__law_judged_anew.nd (de_ix (dt_var 1) (DE.t (de_ix (dt_var 8) (DE.t de_int)))))
      (dss_cons (ds_set 10 sc__law_judged_anew.nd (de_ix (DE.t (de_call c__law_step (hr.mono (by decide)) (da_cons (de_var 1) (da_cons (de_var 8) da_nil)))) (DE.t de_int)))
      (dss_cons (ds_for PassesOwn.never rfl (di_list (DF.toE (df_lst (da_cons (de_var 10) (da_cons de_non (da_cons (de_add (dt_var 10) (DE.t de_int)) (da_cons (de_sub (dt_var 10) (DE.t de_int)) (da_cons de_non (da_cons (de_var 10) da_nil))))))))) (dg_name 11 sc__law_judged_anew.nd) (dss_cons (ds_if (db_cmp (op_eqAll hr) od_eq (DE.t (de_ix (dt_var 8) (DE.t de_int))) (DE.t de_str)) (dss_one (ds_sub 5 (de_tup (da_cons (de_ix (dt_var 9) (DE.t de_int)) (da_cons (de_ix (dt_var 9) (DE.t de_int)) (da_cons (de_ix (dt_var 9) (DE.t de_int)) (da_cons (de_var 11) da_nil))))) (de_ix (dt_var 8) (DE.t de_int)))) (dss_one (ds_if (db_isN (dt_var 11)) (dss_one (ds_sub 5 (de_tup (da_cons (de_ix (dt_var 9) (DE.t de_int)) (da_cons (de_ix (dt_var 9) (DE.t de_int)) (da_cons de_non (da_cons (de_ix (dt_var 9) (DE.t de_int)) da_nil))))) (de_ix (dt_var 8) (DE.t de_int)))) (dss_one (ds_sub 5 (de_tup (da_cons (de_ix (dt_var 9) (DE.t de_int)) (da_cons (de_ix (dt_var 9) (DE.t de_int)) (da_cons (de_sub (DE.t de_int) (dt_var 11)) (da_cons (de_ix (dt_var 9) (DE.t de_int)) da_nil))))) (de_ix (dt_var 8) (DE.t de_int)))))))
      (dss_cons (ds_set 12 sc__law_judged_anew.nd (DF.toE (df_list h_list (dt_var 5))))
      (dss_cons (ds_if (db_not (db_tru (DE.t (de_call c__law_same (hr.mono (by decide)) (da_cons (de_callT c_is_low_ring (hr.mono (by decide)) (dat_cons (dt_var 5) (dat_cons (dt_var 6) dat_nil))) (da_cons (de_call c__law_low_due (hr.mono (by decide)) (da_cons (de_var 12) (da_cons (de_var 2) da_nil))) da_nil)))))) (dss_one (ds_ret (DE.t de_bl))) dss_nil)
      (dss_cons (ds_if (db_not (db_tru (DE.t (de_call c__law_same (hr.mono (by decide)) (da_cons (de_callT c_is_way (hr.mono (by decide)) (dat_cons (dt_var 5) (dat_cons (dt_var 3) (dat_cons (dt_var 4) (dat_cons (dt_var 7) dat_nil))))) (da_cons (de_call c__law_way_due (hr.mono (by decide)) (da_cons (de_var 12) (da_cons (de_var 3) (da_cons (de_var 4) (da_cons (DF.toE (df_slice (dt_var 2) do_none (do_some (DE.t (de_neg (DE.t de_int)))))) da_nil))))) da_nil)))))) (dss_one (ds_ret (DE.t de_bl))) dss_nil)
      (dss_cons (ds_if (DW.toB (dw_and (db_notN (dt_var 11)) (dw_and1 (db_cmp (op_neAll hr) od_ne (DE.t (de_callT c_way_cost (hr.mono (by decide)) (dat_cons (dt_var 5) (dat_cons (dt_var 6) dat_nil)))) (DE.t (de_ix (DE.t (de_call c__law_chain (hr.mono (by decide)) (da_cons (de_var 12) (da_cons (de_var 2) da_nil)))) (DE.t de_int))))))) (dss_one (ds_ret (DE.t de_bl))) dss_nil)
      (dss_one (ds_if (DW.toB (dw_or (db_cmp (op_neAll hr) od_ne (dt_var 5) (dt_var 12)) (dw_or (db_cmp (op_neAll hr) od_ne (dt_var 6) (dt_var 2)) (dw_or1 (db_cmp (op_neAll hr) od_ne (dt_var 7) (DF.t (df_slice (dt_var 2) do_none (do_some (DE.t (de_neg (DE.t de_int))))))))))) (dss_one (ds_ret (DE.t de_bl))) dss_nil))))))))
      (dss_one (ds_ret (DE.t de_bl)))))))))))
theorem bd__law_judged_anew (kV doc pm : Value) (an : Option Addr) (cdv ct : Value) (us : List Value) (hl : us.length = ["script", "facts", "ring", "a", "b"].length) : bindArgs (PySem.W.fnOf "_law_judged_anew" "_law_judged_anew" (defArgs s__law_judged_anew) (defBody s__law_judged_anew) (defScope s__law_judged_anew) .none kV doc pm an cdv ct) ⟨us, []⟩ = pure ((["script", "facts", "ring", "a", "b"] : List Str).zip us) := match us, hl with | [_, _, _, _, _], _ => rfl
theorem cal__law_judged_anew (F : Stands K mg "_law_judged_anew" s__law_judged_anew) (c__law_draw : Cal P w K mg base "_law_draw" 2 4 m__law_draw) (c__law_step : Cal P w K mg base "_law_step" 1 2 m__law_step) (c__law_same : Cal P w K mg base "_law_same" 1 2 m__law_same) (c__law_low_due : Cal P w K mg base "_law_low_due" 3 2 m__law_low_due) (c_is_low_ring : Cal P w K mg base "is_low_ring" 3 2 m_is_low_ring) (c__law_way_due : Cal P w K mg base "_law_way_due" 3 4 m__law_way_due) (c_is_way : Cal P w K mg base "is_way" 3 4 m_is_way) (c_way_cost : Cal P w K mg base "way_cost" 2 2 m_way_cost) (c__law_chain : Cal P w K mg base "_law_chain" 2 2 m__law_chain) (h_list : mg "list" = none) (h_len : mg "len" = none) : Cal P w K mg base "_law_judged_anew" 4 5 m__law_judged_anew :=
  cal_of F bd__law_judged_anew fun F => fn__law_judged_anew F c__law_draw c__law_step c__law_same c__law_low_due c_is_low_ring c__law_way_due c_is_way c_way_cost c__law_chain h_list h_len

abbrev s__law_fits_due : Stmt := topS 29
abbrev N__law_fits_due : List Str := ["facts", "heights", "fact", "gap"]
theorem sc__law_fits_due : FnScope N__law_fits_due ["facts", "heights"] (defScope s__law_fits_due) := ⟨rfl, rfl, rfl, by decide +kernel, rfl, by decide +kernel, by decide +kernel⟩
def b__law_fits_due : En → Option Out :=
      (mSeq (mFor (fun E => ((mVar 0) E).bind lstOf) (gM 2) (mSeq (mSet 3 (mBin (intOp fun i j => .int (i - j)) (mBin ixD (mVarT 1) (mBin ixD (mVarT 2) (mC (.int 1)))) (mBin ixD (mVarT 1) (mBin ixD (mVarT 2) (mC (.int 0))))))
      (mSeq (mIfS (mAnd (fun E => ((mBin ixD (mVarT 2) (mC (.int 2))) E).map (fun d => !isN d)) (fun E => ((mBin (intOp fun i j => .bl (decide (j < i))) (mBin ixD (mVarT 2) (mC (.int 2))) (mVarT 3)) E).bind blOf)) (mRet (mC (.bl false))) mNext)
      (mIfS (mAnd (fun E => ((mBin ixD (mVarT 2) (mC (.int 3))) E).map (fun d => !isN d)) (fun E => ((mBin (intOp fun i j => .bl (decide (i < j))) (mBin ixD (mVarT 2) (mC (.int 3))) (mVarT 3)) E).bind blOf)) (mRet (mC (.bl false))) mNext))))
      (mRet (mC (.bl true))))
def m__law_fits_due : List D → Option D := callM 2 4 b__law_fits_due
theorem fn__law_fits_due {f : Addr} {fd : FuncData} (F : FunD K "_law_fits_due" "_law_fits_due" (defArgs s__law_fits_due) (defBody s__law_fits_due) (defScope s__law_fits_due) [] [] f fd) : FnOk P w K mg base CX0 1 f fd ["facts", "heights"] (spD K 2 m__law_fits_due) :=
  fn_mk (N := N__law_fits_due) (m := b__law_fits_due) F sc__law_fits_due rfl (fun cdv A outer s H E hr =>
      (dss_cons (ds_for PassesOwn.never rfl (di_list (de_var 0)) (dg_name 2 sc__law_fits_due.nd) (dss_cons (ds_set 3 sc__law_fits_due.nd (de_sub (DE.t (de_ix (dt_var 1) (DE.t (de_ix (dt_var 2) (DE.t de_int))))) (DE.t (de_ix (dt_var 1) (DE.t (de_ix (dt_var 2) (DE.t de_int)))))))
      (dss_cons (ds_if (DW.toB (dw_and (db_notN (DE.t (de_ix (dt_var 2) (DE.t de_int)))) (dw_and1 (db_cmp op_gt od_gt (DE.t (de_ix (dt_var 2) (DE.t de_int))) (dt_var 3))))) (dss_one (ds_ret (DE.t de_bl))) dss_nil)
      (dss_one (ds_if (DW.toB (dw_and (db_notN (DE.t (de_ix (dt_var 2) (DE.t de_int)))) (dw_and1 (db_cmp op_lt od_lt (DE.t (de_ix (dt_var 2) (DE.t de_int))) (dt_var 3))))) (dss_one (ds_ret (DE.t de_bl))) dss_nil)))))
      (dss_one (ds_ret (DE.t de_bl)))))
theorem bd__law_fits_due (kV doc pm : Value) (an : Option Addr) (cdv ct : Value) (us : List Value) (hl : us.length = ["facts", "heights"].length) : bindArgs (PySem.W.fnOf "_law_fits_due" "_law_fits_due" (defArgs s__law_fits_due) (defBody s__law_fits_due) (defScope s__law_fits_due) .none kV doc pm an cdv ct) ⟨us, []⟩ = pure ((["facts", "heights"] : List Str).zip us) := match us, hl with | [_, _], _ => rfl
theorem cal__law_fits_due (F : Stands K mg "_law_fits_due" s__law_fits_due) : Cal P w K mg base "_law_fits_due" 1 2 m__law_fits_due :=
  cal_of F bd__law_fits_due fun F => fn__law_fits_due F

abbrev s__law_tight : Stmt := topS 30
abbrev N__law_tight : List Str := ["script", "facts", "heights", "digits", "tight", "k", "gap", "low", "high"]
theorem sc__law_tight : FnScope N__law_tight ["script", "facts", "heights"] (defScope s__law_tight) := ⟨rfl, rfl, rfl, by decide +kernel, rfl, by decide +kernel, by decide +kernel⟩
def b__law_tight : En → Option Out :=
      (mSeq (mSet 3 (mCall 3 m__law_digits (mCons (mVar 0) (mCons (mC (.int 13)) (mCons (mBin (intOpC mulOk fun i j => .int (i * j)) (mC (.int 2)) (mUn lenD (mVarT 1))) mNil)))))
      (mSeq (mSetO 4 (mLst mNil))
      (mSeq (mFor (fun E => ((mUn lenD (mVarT 1)) E).bind rg1) (gM 5) (mSeq (mSet 6 (mBin (intOp fun i j => .int (i - j)) (mBin ixD (mVarT 2) (mBin ixD (mBin ixD (mVarT 1) (mVarT 5)) (mC (.int 1)))) (mBin ixD (mVarT 2) (mBin ixD (mBin ixD (mVarT 1) (mVarT 5)) (mC (.int 0))))))
      (mSeq (mSet 7 (mBin ixD (mList (mLst (mCons (mVar 6) (mCons (mVar 6) (mCons (mBin (intOp fun i j => .int (i - j)) (mVarT 6) (mC (.int 1))) (mCons (mBin (intOp fun i j => .int (i - j)) (mVarT 6) (mBin (intOpC (fun _ j => decide (0 < j)) fun i j => .int (i % j)) (mUn intD (mBin (intOpC divOk fun i j => .int (i / j)) (mBin ixD (mVarT 3) (mBin (intOpC mulOk fun i j => .int (i * j)) (mC (.int 2)) (mVarT 5))) (mC (.int 5)))) (mC (.int 1000)))) (mCons (mC .non) mNil))))))) (mBin (intOpC (fun _ j => decide (0 < j)) fun i j => .int (i % j)) (mUn intD (mBin ixD (mVarT 3) (mBin (intOpC mulOk fun i j => .int (i * j)) (mC (.int 2)) (mVarT 5)))) (mC (.int 5)))))
      (mSeq (mSet 8 (mBin ixD (mList (mLst (mCons (mVar 6) (mCons (mVar 6) (mCons (mBin addD (mVarT 6) (mC (.int 1))) (mCons (mBin addD (mVarT 6) (mBin (intOpC (fun _ j => decide (0 < j)) fun i j => .int (i % j)) (mUn intD (mBin (intOpC divOk fun i j => .int (i / j)) (mBin ixD (mVarT 3) (mBin addD (mBin (intOpC mulOk fun i j => .int (i * j)) (mC (.int 2)) (mVarT 5)) (mC (.int 1)))) (mC (.int 5)))) (mC (.int 1000)))) (mCons (mC .non) mNil))))))) (mBin (intOpC (fun _ j => decide (0 < j)) fun i j => .int (i % j)) (mUn intD (mBin ixD (mVarT 3) (mBin addD (mBin (intOpC mulOk fun i j => .int (i * j)) (mC (.int 2)) (mVarT 5)) (mC (.int 1))))) (mC (.int 5)))))
      (mApp 4 (mTup (mCons (mBin ixD (mBin ixD (mVarT 1) (mVarT 5)) (mC (.int 0))) (mCons (mBin ixD (mBin ixD (mVarT 1) (mVarT 5)) (mC (.int 1))) (mCons (mVar 7) (mCons (mVar 8) mNil))))))))))
      (mRetO 4))))
def m__law_tight : List D → Option D := callM 3 9 b__law_tight
theorem fn__law_tight {f : Addr} {fd : FuncData} (F : FunD K "_law_tight" "_law_tight" (defArgs s__law_tight) (defBody s__law_tight) (defScope s__law_tight) [] [] f fd) (c__law_digits : Cal P w K mg base "_law_digits" 3 3 m__law_digits) (h_len : mg "len" = none) (h_range : mg "range" = none) (h_int : mg "int" = none) : FnOk P w K mg base CX0 4 f fd ["script", "facts", "heights"] (spD K 3 m__law_tight) :=
  fn_mk (N := N__law_tight) (m := b__law_tight) F sc__law_tight rfl (fun cdv A outer s H E hr =>
      (dss_cons (ds_set 3 sc__law_tight.nd (de_call c__law_digits (hr.mono (by decide)) (da_cons (de_var 0) (da_cons de_int (da_cons (de_mul (DE.t de_int) (DE.t (de_len h_len (dt_var 1)))) da_nil)))))
      (dss_cons (ds_setO 4 sc__law_tight.nd (df_lst da_nil))
      (dss_cons (ds_for PassesOwn.never rfl (di_range1 h_range (DE.t (de_len h_len (dt_var 1)))) (dg_name 5 sc__law_tight.nd) (dss_cons (ds_set 6 sc__law_tight.nd (de_sub (DE.t (de_ix (dt_var 2) (DE.t (de_ix (DE.t (de_ix (dt_var 1) (dt_var 5))) (DE.t de_int))))) (DE.t (de_ix (dt_var 2) (DE.t (de_ix (DE.t (de_ix (dt_var 1) (dt_var 5))) (DE.t de_int)))))))
      (dss_cons (ds_set 7 sc__law_tight.nd (de_ix (DF.t (df_lst (da_cons (de_var 6) (da_cons (de_var 6) (da_cons (de_sub (dt_var 6) (DE.t de_int)) (da_cons (de_sub (dt_var 6) (DE.t (de_mod (DE.t (de_int1 h_int (DE.t (de_fdiv (DE.t (de_ix (dt_var 3) (DE.t (de_mul (DE.t de_int) (dt_var 5))))) (DE.t de_int))))) (DE.t de_int)))) (da_cons de_non da_nil))))))) (DE.t (de_mod (DE.t (de_int1 h_int (DE.t (de_ix (dt_var 3) (DE.t (de_mul (DE.t de_int) (dt_var 5))))))) (DE.t de_int)))))
      (dss_cons (ds_set 8 sc__law_tight.nd (de_ix (DF.t (df_lst (da_cons (de_var 6) (da_cons (de_var 6) (da_cons (de_add (dt_var 6) (DE.t de_int)) (da_cons (de_add (dt_var 6) (DE.t (de_mod (DE.t (de_int1 h_int (DE.t (de_fdiv (DE.t (de_ix (dt_var 3) (DE.t (de_add (DE.t (de_mul (DE.t de_int) (dt_var 5))) (DE.t de_int))))) (DE.t de_int))))) (DE.t de_int)))) (da_cons de_non da_nil))))))) (DE.t (de_mod (DE.t (de_int1 h_int (DE.t (de_ix (dt_var 3) (DE.t (de_add (DE.t (de_mul (DE.t de_int) (dt_var 5))) (DE.t de_int))))))) (DE.t de_int)))))
      (dss_one (ds_app 4 (de_tup (da_cons (de_ix (DE.t (de_ix (dt_var 1) (dt_var 5))) (DE.t de_int)) (da_cons (de_ix (DE.t (de_ix (dt_var 1) (dt_var 5))) (DE.t de_int)) (da_cons (de_var 7) (da_cons (de_var 8) da_nil)))))))))))
      (dss_one (ds_retO 4))))))
theorem bd__law_tight (kV doc pm : Value) (an : Option Addr) (cdv ct : Value) (us : List Value) (hl : us.length = ["script", "facts", "heights"].length) : bindArgs (PySem.W.fnOf "_law_tight" "_law_tight" (defArgs s__law_tight) (defBody s__law_tight) (defScope s__law_tight) .none kV doc pm an cdv ct) ⟨us, []⟩ = pure ((["script", "facts", "heights"] : List Str).zip us) := match us, hl with | [_, _, _], _ => rfl
theorem cal__law_tight (F : Stands K mg "_law_tight" s__law_tight) (c__law_digits : Cal P w K mg base "_law_digits" 3 3 m__law_digits) (h_len : mg "len" = none) (h_range : mg "range" = none) (h_int : mg "int" = none) : Cal P w K mg base "_law_tight" 4 3 m__law_tight :=
  cal_of F bd__law_tight fun F => fn__law_tight F c__law_digits h_len h_range h_int

abbrev s__law_fits_judged : Stmt := topS 31
abbrev N__law_fits_judged : List Str := ["script", "facts", "count", "large", "size", "heights", "tight", "place", "a", "b", "gap", "bent", "shift", "asks", "bad", "ask", "tall", "rows", "taller", "due", "digit", "height"]
theorem sc__law_fits_judged : FnScope N__law_fits_judged ["script", "facts", "count", "large"] (defScope s__law_fits_judged) := ⟨rfl, rfl, rfl, by decide +kernel, rfl, by decide +kernel, by decide +kernel⟩
def b__law_fits_judged : En → Option Out :=
      (mSeq (mSet 4 (mBin ixD (mList (mLst (mCons (mC (.int 3)) (mCons (mC (.int 100)) (mCons (mBin (intOpC powOk fun i j => .int (i ^ j.toNat)) (mC (.int 10)) (mC (.int 11))) mNil))))) (mCall 4 m__law_draw (mCons (mVar 0) (mCons (mC (.int 12)) (mCons (mC (.int 0)) (mCons (mC (.int 3)) mNil)))))))
      (mSeq (mSet 5 (mList (mComp [20] (fun E => ((mCall 3 m__law_digits (mCons (mVar 0) (mCons (mC (.int 11)) (mCons (mVar 2) mNil)))) E).bind lstOf) (gM 20) mYes (mBin (intOp fun i j => .int (i - j)) (mBin (intOpC (fun _ j => decide (0 < j)) fun i j => .int (i % j)) (mUn intD (mBin (intOpC mulOk fun i j => .int (i * j)) (mVarT 20) (mC (.int 99991)))) (mVarT 4)) (mBin (intOpC divOk fun i j => .int (i / j)) (mVarT 4) (mC (.int 2)))))))
      (mSeq (mSet 6 (mCall 3 m__law_tight (mCons (mVar 0) (mCons (mVar 1) (mCons (mVar 5) mNil)))))
      (mSeq (mSet 7 (mCall 4 m__law_draw (mCons (mVar 0) (mCons (mC (.int 12)) (mCons (mC (.int 1)) (mCons (mUn lenD (mVarT 1)) mNil))))))
      (mSeq (mSet 8 (mBin ixD (mBin ixD (mVarT 1) (mVarT 7)) (mC (.int 0))))
      (mSeq (mSet 9 (mBin ixD (mBin ixD (mVarT 1) (mVarT 7)) (mC (.int 1))))
      (mSeq (mSet 10 (mBin (intOp fun i j => .int (i - j)) (mBin ixD (mVarT 5) (mVarT 9)) (mBin ixD (mVarT 5) (mVarT 8))))
      (mSeq (mSetO 11 (fun E => ((mVarT 5) E).bind seqOf))
      (mSeq (mSub 11 (mBin (intOp fun i j => .int (i - j)) (mBin addD (mBin ixD (mVarT 11) (mVarT 8)) (mC (.int 1))) (mBin (intOpC mulOk fun i j => .int (i * j)) (mC (.int 2)) (mCall 4 m__law_draw (mCons (mVar 0) (mCons (mC (.int 12)) (mCons (mC (.int 2)) (mCons (mC (.int 2)) mNil))))))) (mVar 8))
      (mSeq (mSet 12 (mBin (intOp fun i j => .int (i - j)) (mCall 4 m__law_draw (mCons (mVar 0) (mCons (mC (.int 12)) (mCons (mC (.int 3)) (mCons (mC (.int 1000003)) mNil))))) (mC (.int 500000))))
      (mSeq (mFrz 11 (mSetO 13 (mLst (mCons (mTup (mCons (mVar 6) (mCons (mVar 5) mNil))) (mCons (mTup (mCons (mVar 6) (mCons (mVar 11) mNil))) (mCons (mTup (mCons (mVar 6) (mCons (mList (mComp [21] (fun E => ((mVarT 5) E).bind lstOf) (gM 21) mYes (mBin addD (mVarT 21) (mVarT 12)))) mNil))) (mCons (mTup (mCons (mVar 1) (mCons (mVar 5) mNil))) mNil)))))))
      (mSeq (mFrz 11 (mSetO 13 (fun E => ((mVarT 13) E).bind fun x => ((mList (mLst (mCons (mTup (mCons (mList (mLst mNil)) (mCons (mVar 5) mNil))) (mCons (mTup (mCons (mList (fun E => (((mVarT 6) E).bind lstOf).bind fun ds => ((fun _ => some none) E).bind fun l => ((fun E => ((mVarT 7) E).bind inOf) E).map fun h => cutD ds l h)) (mCons (mVar 11) mNil))) (mCons (mTup (mCons (mVar 6) (mCons (mList (fun E => ((mList (mLst (mCons (mC (.int 0)) mNil))) E).bind fun x => ((mVarT 2) E).bind fun y => repD x y)) mNil))) (mCons (mTup (mCons (mVar 1) (mCons (mList (fun E => ((mList (mLst (mCons (mC (.int 0)) mNil))) E).bind fun x => ((mVarT 2) E).bind fun y => repD x y)) mNil))) mNil)))))) E).bind fun y => catD x y)))
      (mSeq (mFor (fun E => ((mList (mLst (mCons (mTup (mCons (mBin addD (mVarT 10) (mC (.int 1))) (mCons (mC .non) mNil))) (mCons (mTup (mCons (mC .non) (mCons (mBin (intOp fun i j => .int (i - j)) (mVarT 10) (mC (.int 1))) mNil))) (mCons (mTup (mCons (mBin addD (mVarT 10) (mC (.int 1))) (mCons (mBin (intOp fun i j => .int (i - j)) (mVarT 10) (mC (.int 1))) mNil))) (mCons (mTup (mCons (mVar 10) (mCons (mVar 10) mNil))) (mCons (mTup (mCons (mBin addD (mVarT 10) (mC (.int 1))) (mCons (mBin addD (mVarT 10) (mC (.int 1))) mNil))) (mCons (mTup (mCons (mC .non) (mCons (mC .non) mNil))) mNil)))))))) E).bind lstOf) (gM 14) (mApp 13 (mTup (mCons (mList (fun E => ((mList (fun E => ((mList (fun E => (((mVarT 6) E).bind lstOf).bind fun ds => ((fun _ => some none) E).bind fun l => ((fun E => ((mVarT 7) E).bind inOf) E).map fun h => cutD ds l h)) E).bind fun x => ((mList (mLst (mCons (mTup (mCons (mVar 8) (mCons (mVar 9) (mCons (mBin ixD (mVarT 14) (mC (.int 0))) (mCons (mBin ixD (mVarT 14) (mC (.int 1))) mNil))))) mNil))) E).bind fun y => catD x y)) E).bind fun x => ((mList (fun E => (((mVarT 6) E).bind lstOf).bind fun ds => ((fun E => ((mBin addD (mVarT 7) (mC (.int 1))) E).bind inOf) E).bind fun l => ((fun _ => some none) E).map fun h => cutD ds l h)) E).bind fun y => catD x y)) (mCons (mVar 5) mNil)))))
      (mSeq (mIfS (fun E => ((mVarT 3) E).bind truD) (mSetO 13 (mLst (mCons (mBin ixD (mVarT 13) (mC (.int 0))) (mCons (mBin ixD (mVarT 13) (mC (.int 1))) (mCons (mBin ixD (mVarT 13) (mCall 4 m__law_draw (mCons (mVar 0) (mCons (mC (.int 12)) (mCons (mC (.int 4)) (mCons (mUn lenD (mVarT 13)) mNil)))))) mNil))))) mNext)
      (mSeq (mFrz 13 (mFor (fun E => ((mVar 13) E).bind lstOf) (gM 15) (mSeq (mSetO 17 (fun E => ((mBin ixD (mVarT 15) (mC (.int 0))) E).bind seqOf))
      (mSeq (mSetO 16 (fun E => ((mBin ixD (mVarT 15) (mC (.int 1))) E).bind seqOf))
      (mSeq (mIfS (mNot (fun E => ((mCall 2 m__law_same (mCons (mCallT 2 m_fits_facts (mCons (mVarT 17) (mCons (mVarT 16) mNil))) (mCons (mCall 2 m__law_fits_due (mCons (mBin ixD (mVarT 15) (mC (.int 0))) (mCons (mBin ixD (mVarT 15) (mC (.int 1))) mNil))) mNil))) E).bind truD)) (mRet (mC (.bl false))) mNext)
      (mIfS (mOr (fun E => ((mBin neD (mVarT 17) (mBin ixD (mVarT 15) (mC (.int 0)))) E).bind blOf) (fun E => ((mBin neD (mVarT 16) (mBin ixD (mVarT 15) (mC (.int 1)))) E).bind blOf)) (mRet (mC (.bl false))) mNext))))))
      (mSeq (mSetO 16 (fun E => ((mVarT 5) E).bind seqOf))
      (mSeq (mSetO 17 (fun E => ((mVarT 6) E).bind seqOf))
      (mSeq (mSub 17 (mTup (mCons (mVar 8) (mCons (mVar 9) (mCons (mVar 10) (mCons (mVar 10) mNil))))) (mVar 7))
      (mSeq (mIfS (mNot (fun E => ((mCall 2 m__law_same (mCons (mCallT 2 m_fits_facts (mCons (mVarT 17) (mCons (mVarT 16) mNil))) (mCons (mC (.bl true)) mNil))) E).bind truD)) (mRet (mC (.bl false))) mNext)
      (mSeq (mSub 16 (mBin addD (mBin ixD (mVarT 16) (mVarT 9)) (mC (.int 1))) (mVar 9))
      (mSeq (mIfS (mNot (fun E => ((mCall 2 m__law_same (mCons (mCallT 2 m_fits_facts (mCons (mVarT 17) (mCons (mVarT 16) mNil))) (mCons (mC (.bl false)) mNil))) E).bind truD)) (mRet (mC (.bl false))) mNext)
      (mSeq (mSub 17 (mTup (mCons (mVar 8) (mCons (mVar 9) (mCons (mC .non) (mCons (mC .non) mNil))))) (mVar 7))
      (mSeq (mSetO 18 (fun E => ((mVarT 5) E).bind seqOf))
      (mSeq (mSub 18 (mBin addD (mBin ixD (mVarT 18) (mVarT 9)) (mC (.int 1))) (mVar 9))
      (mSeq (mSet 19 (mCallT 2 m__law_fits_due (mCons (mList (fun E => ((mList (fun E => ((mList (fun E => (((mVarT 6) E).bind lstOf).bind fun ds => ((fun _ => some none) E).bind fun l => ((fun E => ((mVarT 7) E).bind inOf) E).map fun h => cutD ds l h)) E).bind fun x => ((mList (mLst (mCons (mTup (mCons (mVar 8) (mCons (mVar 9) (mCons (mC .non) (mCons (mC .non) mNil))))) mNil))) E).bind fun y => catD x y)) E).bind fun x => ((mList (fun E => (((mVarT 6) E).bind lstOf).bind fun ds => ((fun E => ((mBin addD (mVarT 7) (mC (.int 1))) E).bind inOf) E).bind fun l => ((fun _ => some none) E).map fun h => cutD ds l h)) E).bind fun y => catD x y)) (mCons (mVarT 18) mNil))))
      (mRet (mCall 2 m__law_same (mCons (mCallT 2 m_fits_facts (mCons (mVarT 17) (mCons (mVarT 16) mNil))) (mCons (mVar 19) mNil)))))))))))))))))))))))))))))
def m__law_fits_judged : List D → Option D := callM 4 22 b__law_fits_judged
theorem fn__law_fits_judged {f : Addr} {fd : FuncData} (F : FunD K "_law_fits_judged" "_law_fits_judged" (defArgs s__law_fits_judged) (defBody s__law_fits_judged) (defScope s__law_fits_judged) [] [] f fd) (c__law_draw : Cal P w K mg base "_law_draw" 2 4 m__law_draw) (c__law_digits : Cal P w K mg base "_law_digits" 3 3 m__law_digits) (c__law_tight : Cal P w K mg base "_law_tight" 4 3 m__law_tight) (c__law_same : Cal P w K mg base "_law_same" 1 2 m__law_same) (c__law_fits_due : Cal P w K mg base "_law_fits_due" 1 2 m__law_fits_due) (c_fits_facts : Cal P w K mg base "fits_facts" 1 2 m_fits_facts) (h_int : mg "int" = none) (h_len : mg "len" = none) (h_list : mg "list" = none) : FnOk P w K mg base CX0 5 f fd ["script", "facts", "count", "large"] (spD K 4 m__law_fits_judged) :=
  fn_mk (N := N__law_fits_judged) (m := b__law_fits_judged) F sc__law_fits_judged rfl (fun cdv A outer s H E hr =>
      (dss_cons (ds_set 4 sc__law_fits_judged.nd (de_ix (DF.t (df_lst (da_cons de_int (da_cons de_int (da_cons (de_pow (DE.t de_int) (DE.t de_int)) da_nil))))) (DE.t (de_call c__law_draw (hr.mono (by decide)) (da_cons (de_var 0) (da_cons de_int (da_cons de_int (da_cons de_int da_nil))))))))
      (dss_cons (ds_setLcF 5 (own := [("digit", 20)]) rfl sc__law_fits_judged.nd (dit_list (DE.t (de_call c__law_digits (hr.mono (by decide)) (da_cons (de_var 0) (da_cons de_int (da_cons (de_var 2) da_nil)))))) (blkOk_by (N := N__law_fits_judged) (sc := defScope s__law_fits_judged) (by decide +kernel)) (by decide) (fun _ _ _ _ _ => (dg_name 20 sc__law_fits_judged.nd)) (fun _ _ _ _ _ => dts_nil) (fun _ _ _ _ _ => (de_sub (DE.t (de_mod (DE.t (de_int1 h_int (DE.t (de_mul (dt_var 20) (DE.t de_int))))) (dt_var 4))) (DE.t (de_fdiv (dt_var 4) (DE.t de_int))))) (sw_true rfl rfl rfl (by decide +kernel)))
      (dss_cons (ds_set 6 sc__law_fits_judged.nd (de_call c__law_tight (hr.mono (by decide)) (da_cons (de_var 0) (da_cons (de_var 1) (da_cons (de_var 5) da_nil)))))
      (dss_cons (ds_set 7 sc__law_fits_judged.nd (de_call c__law_draw (hr.mono (by decide)) (da_cons (de_var 0) (da_cons de_int (da_cons de_int (da_cons (de_len h_len (dt_var 1)) da_nil))))))
      (dss_cons (ds_set 8 sc__law_fits_judged.nd (de_ix (DE.t (de_ix (dt_var 1) (dt_var 7))) (DE.t de_int)))
      (dss_cons (ds_set 9 sc__law_fits_judged.nd (de_ix (DE.t (de_ix (dt_var 1) (dt_var 7))) (DE.t de_int)))
      (dss_cons (ds_set 10 sc__law_fits_judged.nd (de_sub (DE.t (de_ix (dt_var 5) (dt_var 9))) (DE.t (de_ix (dt_var 5) (dt_var 8)))))
      (dss_cons (ds_setO 11 sc__law_fits_judged.nd (df_list h_list (dt_var 5)))
      (dss_cons (ds_sub 11 (de_sub (DE.t (de_add (DE.t (de_ix (dt_var 11) (dt_var 8))) (DE.t de_int))) (DE.t (de_mul (DE.t de_int) (DE.t (de_call c__law_draw (hr.mono (by decide)) (da_cons (de_var 0) (da_cons de_int (da_cons de_int (da_cons de_int da_nil))))))))) (de_var 8))
      (dss_cons (ds_set 12 sc__law_fits_judged.nd (de_sub (DE.t (de_call c__law_draw (hr.mono (by decide)) (da_cons (de_var 0) (da_cons de_int (da_cons de_int (da_cons de_int da_nil)))))) (DE.t de_int)))
      (dss_cons (ds_frz 11 (ds_setO 13 sc__law_fits_judged.nd (df_lst (da_cons (de_tup (da_cons (de_var 6) (da_cons (de_var 5) da_nil))) (da_cons (de_tup (da_cons (de_var 6) (da_cons (de_var 11) da_nil))) (da_cons (de_tup (da_cons (de_var 6) (da_cons (DF.toE (df_lc (own := [("height", 21)]) rfl sc__law_fits_judged.nd (dit_list (dt_var 5)) (blkOk_by (N := N__law_fits_judged) (sc := defScope s__law_fits_judged) (by decide +kernel)) (by decide) (fun _ _ _ _ _ => (dg_name 21 sc__law_fits_judged.nd)) (fun _ _ _ _ _ => dts_nil) (fun _ _ _ _ _ => (de_add (dt_var 21) (dt_var 12))))) da_nil))) (da_cons (de_tup (da_cons (de_var 1) (da_cons (de_var 5) da_nil))) da_nil)))))))
      (dss_cons (ds_frz 11 (ds_setO 13 sc__law_fits_judged.nd (df_add (dt_var 13) (DF.t (df_lst (da_cons (de_tup (da_cons (DF.toE (df_lst da_nil)) (da_cons (de_var 5) da_nil))) (da_cons (de_tup (da_cons (DF.toE (df_slice (dt_var 6) do_none (do_some (dt_var 7)))) (da_cons (de_var 11) da_nil))) (da_cons (de_tup (da_cons (de_var 6) (da_cons (DF.toE (df_rep (DF.t (df_lst (da_cons de_int da_nil))) (dt_var 2))) da_nil))) (da_cons (de_tup (da_cons (de_var 1) (da_cons (DF.toE (df_rep (DF.t (df_lst (da_cons de_int da_nil))) (dt_var 2))) da_nil))) da_nil)))))))))
      (dss_cons (ds_for PassesOwn.never rfl (di_list (DF.toE (df_lst (da_cons (de_tup (da_cons (de_add (dt_var 10) (DE.t de_int)) (da_cons de_non da_nil))) (da_cons (de_tup (da_cons de_non (da_cons (de_sub (dt_var 10) (DE.t de_int)) da_nil))) (da_cons (de_tup (da_cons (de_add (dt_var 10) (DE.t de_int)) (da_cons (de_sub (dt_var 10) (DE.t de_int)) da_nil))) (da_cons (de_tup (da_cons (de_var 10) (da_cons (de_var 10) da_nil))) (da_cons (de_tup (da_cons (de_add (dt_var 10) (DE.t de_int)) (da_cons (de_add (dt_var 10) (DE.t de_int)) da_nil))) (da_cons (de_tup (da_cons de_non (da_cons de_non da_nil))) da_nil))))))))) (dg_name 14 sc__law_fits_judged.nd) (dss_one (ds_app 13 (de_tup (da_cons (DF.toE (df_add (DF.t (df_add (DF.t (df_slice (dt_var 6) do_none (do_some (dt_var 7)))) (DF.t (df_lst (da_cons (de_tup (da_cons (de_var 8) (da_cons (de_var 9) (da_cons (de_ix (dt_var 14) (DE.t de_int)) (da_cons (de_ix (dt_var 14) (DE.t de_int)) da_nil))))) da_nil))))) (DF.t (df_slice (dt_var 6) (do_some (DE.t (de_add (dt_var 7) (DE.t de_int)))) do_none)))) (da_cons (de_var 5) da_nil))))))
      (dss_cons (ds_if (db_tru (dt_var 3)) (dss_one (ds_setO 13 sc__law_fits_judged.nd (df_lst (da_cons (de_ix (dt_var 13) (DE.t de_int)) (da_cons (de_ix (dt_var 13) (DE.t de_int)) (da_cons (de_ix (dt_var 13) (DE.t (de_call c__law_draw (hr.mono (by decide)) (da_cons (de_var 0) (da_cons de_int (da_cons de_int (da_cons (de_len h_len (dt_var 13)) da_nil))))))) da_nil)))))) dss_nil)
      (dss_cons (ds_frz 13 (ds_for PassesOwn.never rfl (di_list (de_var 13)) (dg_name 15 sc__law_fits_judged.nd) (dss_cons (ds_setO 17 sc__law_fits_judged.nd (df_list h_list (DE.t (de_ix (dt_var 15) (DE.t de_int)))))
      (dss_cons (ds_setO 16 sc__law_fits_judged.nd (df_list h_list (DE.t (de_ix (dt_var 15) (DE.t de_int)))))
      (dss_cons (ds_if (db_not (db_tru (DE.t (de_call c__law_same (hr.mono (by decide)) (da_cons (de_callT c_fits_facts (hr.mono (by decide)) (dat_cons (dt_var 17) (dat_cons (dt_var 16) dat_nil))) (da_cons (de_call c__law_fits_due (hr.mono (by decide)) (da_cons (de_ix (dt_var 15) (DE.t de_int)) (da_cons (de_ix (dt_var 15) (DE.t de_int)) da_nil))) da_nil)))))) (dss_one (ds_ret (DE.t de_bl))) dss_nil)
      (dss_one (ds_if (DW.toB (dw_or (db_cmp (op_neAll hr) od_ne (dt_var 17) (DE.t (de_ix (dt_var 15) (DE.t de_int)))) (dw_or1 (db_cmp (op_neAll hr) od_ne (dt_var 16) (DE.t (de_ix (dt_var 15) (DE.t de_int))))))) (dss_one (ds_ret (DE.t de_bl))) dss_nil)))))))
      (dss_cons (ds_setO 16 sc__law_fits_judged.nd (df_list h_list (dt_var 5)))
      (dss_cons (ds_setO 17 sc__law_fits_judged.nd (df_list h_list (dt_var 6)))
      (dss_cons (ds_sub 17 (de_tup (da_cons (de_var 8) (da_cons (de_var 9) (da_cons (de_var 10) (da_cons (de_var 10) da_nil))))) (de_var 7))
      (dss_cons (ds_if (db_not (db_tru (DE.t (de_call c__law_same (hr.mono (by decide)) (da_cons (de_callT c_fits_facts (hr.mono (by decide)) (dat_cons (dt_var 17) (dat_cons (dt_var 16) dat_nil))) (da_cons de_bl da_nil)))))) (dss_one (ds_ret (DE.t de_bl))) dss_nil)
      (dss_cons (ds_sub 16 (de_add (DE.t (de_ix (dt_var 16) (dt_var 9))) (DE.t de_int)) (de_var 9))
      (dss_cons (ds_if (db_not (db_tru (DE.t (de_call c__law_same (hr.mono (by decide)) (da_cons (de_callT c_fits_facts (hr.mono (by decide)) (dat_cons (dt_var 17) (dat_cons (dt_var 16) dat_nil))) (da_cons de_bl da_nil)))))) (dss_one (ds_ret (DE.t de_bl))) dss_nil)
      (dss_cons (ds_sub 17 (de_tup (da_cons (de_var 8) (da_cons (de_var 9) (da_cons de_non (da_cons de_non da_nil))))) (de_var 7))
      (dss_cons (ds_setO 18 sc__law_fits_judged.nd (df_list h_list (dt_var 5)))
      (dss_cons (ds_sub 18 (de_add (DE.t (de_ix (dt_var 18) (dt_var 9))) (DE.t de_int)) (de_var 9))
      (dss_cons (ds_set 19 sc__law_fits_judged.nd (de_callT c__law_fits_due (hr.mono (by decide)) (dat_cons (DF.t (df_add (DF.t (df_add (DF.t (df_slice (dt_var 6) do_none (do_some (dt_var 7)))) (DF.t (df_lst (da_cons (de_tup (da_cons (de_var 8) (da_cons (de_var 9) (da_cons de_non (da_cons de_non da_nil))))) da_nil))))) (DF.t (df_slice (dt_var 6) (do_some (DE.t (de_add (dt_var 7) (DE.t de_int)))) do_none)))) (dat_cons (dt_var 18) dat_nil))))
      (dss_one (ds_ret (DE.t (de_call c__law_same (hr.mono (by decide)) (da_cons (de_callT c_fits_facts (hr.mono (by decide)) (dat_cons (dt_var 17) (dat_cons (dt_var 16) dat_nil))) (da_cons (de_var 19) da_nil))))))))))))))))))))))))))))))))
theorem bd__law_fits_judged (kV doc pm : Value) (an : Option Addr) (cdv ct : Value) (us : List Value) (hl : us.length = ["script", "facts", "count", "large"].length) : bindArgs (PySem.W.fnOf "_law_fits_judged" "_law_fits_judged" (defArgs s__law_fits_judged) (defBody s__law_fits_judged) (defScope s__law_fits_judged) .none kV doc pm an cdv ct) ⟨us, []⟩ = pure ((["script", "facts", "count", "large"] : List Str).zip us) := match us, hl with | [_, _, _, _], _ => rfl
theorem cal__law_fits_judged (F : Stands K mg "_law_fits_judged" s__law_fits_judged) (c__law_draw : Cal P w K mg base "_law_draw" 2 4 m__law_draw) (c__law_digits : Cal P w K mg base "_law_digits" 3 3 m__law_digits) (c__law_tight : Cal P w K mg base "_law_tight" 4 3 m__law_tight) (c__law_same : Cal P w K mg base "_law_same" 1 2 m__law_same) (c__law_fits_due : Cal P w K mg base "_law_fits_due" 1 2 m__law_fits_due) (c_fits_facts : Cal P w K mg base "fits_facts" 1 2 m_fits_facts) (h_int : mg "int" = none) (h_len : mg "len" = none) (h_list : mg "list" = none) : Cal P w K mg base "_law_fits_judged" 5 4 m__law_fits_judged :=
  cal_of F bd__law_fits_judged fun F => fn__law_fits_judged F c__law_draw c__law_digits c__law_tight c__law_same c__law_fits_due c_fits_facts h_int h_len h_list

abbrev s_law : Stmt := topS 32
abbrev N_law : List Str := ["script", "large", "built", "facts", "ring", "a", "b", "lists", "steps"]
theorem sc_law : FnScope N_law ["script"] (defScope s_law) := ⟨rfl, rfl, rfl, by decide +kernel, rfl, by decide +kernel, by decide +kernel⟩
def b_law : En → Option Out :=
      (mSeq (mSet 1 (mBin eqD (mCall 4 m__law_draw (mCons (mVar 0) (mCons (mC (.int 0)) (mCons (mC (.int 0)) (mCons (mC (.int 16)) mNil))))) (mC (.int 0))))
      (mSeq (mSet 2 (mCall 2 m__law_facts (mCons (mVar 0) (mCons (mVar 1) mNil))))
      (mSeq (mSet 3 (mBin ixD (mVarT 2) (mC (.int 2))))
      (mSeq (mSet 4 (mBin ixD (mVarT 2) (mC (.int 3))))
      (mSeq (mSet 5 (mBin ixD (mBin ixD (mVarT 2) (mC (.int 1))) (mC (.int 0))))
      (mSeq (mSet 6 (mBin ixD (mBin ixD (mVarT 2) (mC (.int 1))) (mBin (intOp fun i j => .int (i - j)) (mUn lenD (mVarT 4)) (mC (.int 1)))))
      (mSeq (mSet 7 (mCall 5 m__law_lists (mCons (mVar 0) (mCons (mVar 3) (mCons (mVar 4) (mCons (mVar 5) (mCons (mVar 6) mNil)))))))
      (mSeq (mIfS (fun E => ((mVarT 1) E).bind truD) (mSet 7 (mList (mLst (mCons (mVar 4) (mCons (mList (fun E => (((mVarT 4) E).bind lstOf).bind fun ds => ((fun _ => some none) E).bind fun l => ((fun E => ((mUn negD (mC (.int 1))) E).bind inOf) E).map fun h => cutD ds l h)) (mCons (mBin ixD (mVarT 7) (mCall 4 m__law_draw (mCons (mVar 0) (mCons (mC (.int 7)) (mCons (mC (.int 0)) (mCons (mUn lenD (mVarT 7)) mNil)))))) mNil)))))) mNext)
      (mSeq (mFor (fun E => ((mVar 7) E).bind lstOf) (gM 8) (mIfS (mNot (fun E => ((mCall 4 m__law_steps_judged (mCons (mVar 3) (mCons (mVar 5) (mCons (mVar 6) (mCons (mVar 8) mNil))))) E).bind truD)) (mRet (mC (.bl false))) mNext))
      (mSeq (mIfS (mNot (fun E => ((mCall 5 m__law_judged_anew (mCons (mVar 0) (mCons (mVar 3) (mCons (mVar 4) (mCons (mVar 5) (mCons (mVar 6) mNil)))))) E).bind truD)) (mRet (mC (.bl false))) mNext)
      (mRet (mCall 4 m__law_fits_judged (mCons (mVar 0) (mCons (mVar 3) (mCons (mBin ixD (mVarT 2) (mC (.int 0))) (mCons (mVar 1) mNil))))))))))))))))
def m_law : List D → Option D := callM 1 9 b_law
theorem fn_law {f : Addr} {fd : FuncData} (F : FunD K "law" "law" (defArgs s_law) (defBody s_law) (defScope s_law) [] [] f fd) (c__law_draw : Cal P w K mg base "_law_draw" 2 4 m__law_draw) (c__law_facts : Cal P w K mg base "_law_facts" 5 2 m__law_facts) (c__law_lists : Cal P w K mg base "_law_lists" 5 5 m__law_lists) (c__law_steps_judged : Cal P w K mg base "_law_steps_judged" 4 4 m__law_steps_judged) (c__law_judged_anew : Cal P w K mg base "_law_judged_anew" 4 5 m__law_judged_anew) (c__law_fits_judged : Cal P w K mg base "_law_fits_judged" 5 4 m__law_fits_judged) (h_len : mg "len" = none) : FnOk P w K mg base CX0 6 f fd ["script"] (spD K 1 m_law) :=
  fn_mk (N := N_law) (m := b_law) F sc_law rfl (fun cdv A outer s H E hr =>
      (dss_cons (ds_set 1 sc_law.nd (de_cmp (op_eqAll hr) od_eq (DE.t (de_call c__law_draw (hr.mono (by decide)) (da_cons (de_var 0) (da_cons de_int (da_cons de_int (da_cons de_int da_nil)))))) (DE.t de_int)))
      (dss_cons (ds_set 2 sc_law.nd (de_call c__law_facts (hr.mono (by decide)) (da_cons (de_var 0) (da_cons (de_var 1) da_nil))))
      (dss_cons (ds_set 3 sc_law.nd (de_ix (dt_var 2) (DE.t de_int)))
      (dss_cons (ds_set 4 sc_law.nd (de_ix (dt_var 2) (DE.t de_int)))
      (dss_cons (ds_set 5 sc_law.nd (de_ix (DE.t (de_ix (dt_var 2) (DE.t de_int))) (DE.t de_int)))
      (dss_cons (ds_set 6 sc_law.nd (de_ix (DE.t (de_ix (dt_var 2) (DE.t de_int))) (DE.t (de_sub (DE.t (de_len h_len (dt_var 4))) (DE.t de_int)))))
      (dss_cons (ds_set 7 sc_law.nd (de_call c__law_lists (hr.mono (by decide)) (da_cons (de_var 0) (da_cons (de_var 3) (da_cons (de_var 4) (da_cons (de_var 5) (da_cons (de_var 6) da_nil)))))))
      (dss_cons (ds_if (db_tru (dt_var 1)) (dss_one (ds_set 7 sc_law.nd (DF.toE (df_lst (da_cons (de_var 4) (da_cons (DF.toE (df_slice (dt_var 4) do_none (do_some (DE.t (de_neg (DE.t de_int)))))) (da_cons (de_ix (dt_var 7) (DE.t (de_call c__law_draw (hr.mono (by decide)) (da_cons (de_var 0) (da_cons de_int (da_cons de_int (da_cons (de_len h_len (dt_var 7)) da_nil))))))) da_nil))))))) dss_nil)
      (dss_cons (ds_for PassesOwn.never rfl (di_list (de_var 7)) (dg_name 8 sc_law.nd) (dss_one (ds_if (db_not (db_tru (DE.t (de_call c__law_steps_judged (hr.mono (by decide)) (da_cons (de_var 3) (da_cons (de_var 5) (da_cons (de_var 6) (da_cons (de_var 8) da_nil)))))))) (dss_one (ds_ret (DE.t de_bl))) dss_nil)))
      (dss_cons (ds_if (db_not (db_tru (DE.t (de_call c__law_judged_anew (hr.mono (by decide)) (da_cons (de_var 0) (da_cons (de_var 3) (da_cons (de_var 4) (da_cons (de_var 5) (da_cons (de_var 6) da_nil))))))))) (dss_one (ds_ret (DE.t de_bl))) dss_nil)
      (dss_one (ds_ret (DE.t (de_call c__law_fits_judged (hr.mono (by decide)) (da_cons (de_var 0) (da_cons (de_var 3) (da_cons (de_ix (dt_var 2) (DE.t de_int)) (da_cons (de_var 1) da_nil)))))))))))))))))))
theorem bd_law (kV doc pm : Value) (an : Option Addr) (cdv ct : Value) (us : List Value) (hl : us.length = ["script"].length) : bindArgs (PySem.W.fnOf "law" "law" (defArgs s_law) (defBody s_law) (defScope s_law) .none kV doc pm an cdv ct) ⟨us, []⟩ = pure ((["script"] : List Str).zip us) := match us, hl with | [_], _ => rfl
theorem cal_law (F : Stands K mg "law" s_law) (c__law_draw : Cal P w K mg base "_law_draw" 2 4 m__law_draw) (c__law_facts : Cal P w K mg base "_law_facts" 5 2 m__law_facts) (c__law_lists : Cal P w K mg base "_law_lists" 5 5 m__law_lists) (c__law_steps_judged : Cal P w K mg base "_law_steps_judged" 4 4 m__law_steps_judged) (c__law_judged_anew : Cal P w K mg base "_law_judged_anew" 4 5 m__law_judged_anew) (c__law_fits_judged : Cal P w K mg base "_law_fits_judged" 5 4 m__law_fits_judged) (h_len : mg "len" = none) : Cal P w K mg base "law" 6 1 m_law :=
  cal_of F bd_law fun F => fn_law F c__law_draw c__law_facts c__law_lists c__law_steps_judged c__law_judged_anew c__law_fits_judged h_len

end
end Sx

set_option Elab.async false
set_option linter.all false
set_option maxRecDepth 100000
set_option maxHeartbeats 2000000
namespace Sx
open PySem L2
theorem cell_ok (ns : List Int) (at_ : Int) (h : 0 ≤ at_) : ∃ r : Int, m__law_cell [.scr ns, .int at_] = some (.int r) := by
  unfold m__law_cell callM b__law_cell
  by_cases hl : at_ < (ns.length : Int)
  · obtain ⟨x, hx, _⟩ := atI_nat' h hl
    exact ⟨x, by simp [hl, hx]⟩
  · simp [hl, mulOk_l]
    generalize hmb : mSet 2 _ = mb
    obtain ⟨E', h1, h2⟩ := runFor_inv (mg := gM 3) (mb := mb) (fun _ E => ∃ s r, E = [.fz (.scr ns), .fz (.int at_), .fz (.int r), s]) (ns.map .int) 0 [.fz (.scr ns), .fz (.int at_), .fz (.int (11 + 101 * at_)), .un] ⟨_, _, rfl⟩ fun j d E hj hI => by
      obtain ⟨s, r, rfl⟩ := hI
      obtain ⟨c, rfl, _⟩ := ints_at hj
      refine ⟨_, _, rfl, .inl ?_, ⟨.fz (.int c), (r * 31 + c) % 1000000007, rfl⟩⟩
      subst hmb
      simp [mulOk_r]
    obtain ⟨s, r, rfl⟩ := h2
    exact ⟨r, by simp [h1]⟩
theorem draw_ok (ns : List Int) {at_ k size : Int} (h : 0 ≤ at_) (hk : 0 ≤ k ∧ k ≤ 90000) (hs : 0 < size) : ∃ r : Int, m__law_draw [.scr ns, .int at_, .int k, .int size] = some (.int r) ∧ 0 ≤ r ∧ r < size := by
  obtain ⟨c, hc⟩ := cell_ok ns at_ h
  have last : ∀ x : Int, 0 ≤ x % size ∧ x % size < size := fun x => ⟨Int.emod_nonneg _ (by omega), Int.emod_lt_of_pos _ hs⟩
  have m1 : ∀ x : Int, -18446744073709551616 < x % 2147483647 ∧ x % 2147483647 < 18446744073709551616 := fun x => by omega
  have m2 : ∀ x : Int, -18446744073709551616 < x % 2147483629 ∧ x % 2147483629 < 18446744073709551616 := fun x => by omega
  unfold m__law_draw callM b__law_draw
  by_cases hb : (1000000000000000000 : Int) ≤ c
  · simp [hc, hb, powOk_c, mulOk_l, mulOk_r, divOk_c, hs, m1, m2, hk, show -100000 ≤ k by omega, show k ≤ 100000 by omega]
    generalize hmb : mSet 6 _ = mb
    obtain ⟨E', h1, h2⟩ := runFor_inv (mg := gM 7) (mb := mb) (fun _ E => ∃ s r, E = [.fz (.scr ns), .fz (.int at_), .fz (.int k), .fz (.int size), .fz (.int c), .un, .fz (.int r), s]) (rangeD 0 k.toNat) 0 [.fz (.scr ns), .fz (.int at_), .fz (.int k), .fz (.int size), .fz (.int c), .un, .fz (.int c), .un] ⟨_, _, rfl⟩ fun j d E hj hI => by
      obtain ⟨s, r, rfl⟩ := hI
      obtain ⟨rfl, _⟩ := range_at hj
      refine ⟨_, _, rfl, .inl ?_, ⟨.fz (.int (0 + j)), r / 1000003, rfl⟩⟩
      subst hmb
      simp [divOk_c]
    obtain ⟨s, r, rfl⟩ := h2
    by_cases hr : 0 < r
    · exact ⟨r % 1000003 % size, by simp [h1, hr, hs], last _⟩
    · refine ⟨?x % size, ?h, last ?x⟩
      case h =>
        simp [h1, hr, hs, mulOk_l, mulOk_r, divOk_c, m1, m2]
        rfl
  · refine ⟨?x % size, ?h, last ?x⟩
    case h => simp [hc, hb, powOk_c, mulOk_l, mulOk_r, divOk_c, hs, m1, m2]
theorem rangeD_eq (lo : Int) (n : Nat) : rangeD lo n = (List.range n).map fun (i : Nat) => D.int (lo + (i : Int)) := rfl
theorem digits_ok (ns : List Int) {at_ count : Int} (h : 0 ≤ at_) (hc : 0 ≤ count ∧ count ≤ 90000) : ∃ zs : List Int, m__law_digits [.scr ns, .int at_, .int count] = some (.lst (zs.map .int)) ∧ (zs.length : Int) = count ∧ ∀ z ∈ zs, 0 ≤ z := by
  obtain ⟨m0, hm0, _⟩ := draw_ok ns (at_ := at_) (k := 40) (size := 1000003) h (by omega) (by omega)
  unfold m__law_digits callM b__law_digits
  have hmin : ∃ n : Int, (if (24 : Int) < count then 24 else count) = n ∧ 0 ≤ n ∧ n ≤ 24 ∧ n ≤ count ∧ (n = count ∨ n = 24) := by
    split
    · exact ⟨24, rfl, by omega⟩
    · exact ⟨count, rfl, by omega⟩
  obtain ⟨n, hn, n0, n24, nc, nn⟩ := hmin
  simp [hn, show n ≤ 100000 by omega, show -100000 ≤ n by omega, hm0, rangeD_len, show n.toNat ≤ 100000 by omega, show count ≤ 100000 by omega, show -100000 ≤ count by omega]
  generalize hme : mCall 4 m__law_draw _ = me
  obtain ⟨zs, c1, c2⟩ := runComp_enc (mg := gM 5) (mt := mYes) (me := me) (E0 := [.fz (.scr ns), .fz (.int at_), .fz (.int count), .un, .un, .un]) (fun (i : Nat) => D.int (0 + (i : Int))) D.int (fun _ z => 0 ≤ z) (List.range n.toNat) fun i hi => by
    have hi' := List.mem_range.mp hi
    obtain ⟨r, r1, r2, r3⟩ := draw_ok ns (at_ := at_) (k := 0 + (i : Int)) (size := 1000003) h (by omega) (by omega)
    refine ⟨_, r, rfl, rfl, ?_, r2⟩
    subst hme
    simp at r1
    simp [r1]
  rw [rangeD_eq, c1]
  have hz : zs.length = n.toNat := by rw [← Paired.len c2, List.length_range]
  have hpos : ∀ z ∈ zs, 0 ≤ z := fun z hz => let ⟨_, _, q⟩ := Paired.mem c2 hz; q
  simp
  generalize hmb : mSeq (mSet 4 _) _ = mb
  obtain ⟨E', h1, h2⟩ := runFor_inv (mg := gM 5) (mb := mb) (fun j E => ∃ (ws : List Int) (r : Int) (s : Sl), E = [.fz (.scr ns), .fz (.int at_), .fz (.int count), .ow (ws.map .int), .fz (.int r), s] ∧ ws.length = n.toNat + j ∧ ∀ z ∈ ws, 0 ≤ z) (rangeD 24 (count - 24).toNat) 0 [.fz (.scr ns), .fz (.int at_), .fz (.int count), .ow (zs.map .int), .fz (.int m0), .un] ⟨zs, m0, .un, rfl, hz, hpos⟩ fun j d E hj hI => by
    obtain ⟨ws, r, s, rfl, hw, hp⟩ := hI
    obtain ⟨rfl, hjl⟩ := range_at hj
    have wl : ws.length < 100000 := by omega
    refine ⟨_, _, rfl, .inl ?_, ⟨ws ++ [((r * 48271 + 7919 * (24 + (j : Int)) + 11) % 2147483647) / 9], (r * 48271 + 7919 * (24 + (j : Int)) + 11) % 2147483647, .fz (.int (24 + (j : Int))), rfl, ?_, ?_⟩⟩
    · subst hmb
      simp [mulOk_l, mulOk_r, divOk_c, wl]
    · simp [hw]; omega
    · intro z hz
      rcases List.mem_append.mp hz with q | q
      · exact hp z q
      · have e := List.mem_singleton.mp q
        omega
  obtain ⟨ws, r, s, rfl, hw, hp⟩ := h2
  rw [rangeD_len] at hw
  refine ⟨ws, by simp [hm0, h1, show count ≤ 100000 by omega, show -100000 ≤ count by omega], ?_, hp⟩
  omega
end Sx

set_option Elab.async false
set_option linter.all false
set_option maxRecDepth 100000
set_option maxHeartbeats 4000000
namespace Sx
open PySem L2
structure F where
  a : Int
  b : Int
  lo : Option Int
  hi : Option Int
def oD : Option Int → D
  | none => .non
  | some i => .int i
def encF (f : F) : D := .tup [.int f.a, .int f.b, oD f.lo, oD f.hi]
def encP (p : F × Str) : D := .tup [encF p.1, .str p.2]
def encS (s : Int × Str) : D := .tup [.int s.1, .str s.2]
theorem order_ok (ns : List Int) {at_ count : Int} (h : 0 ≤ at_) (hc : 0 ≤ count ∧ count ≤ 90000) : ∃ os : List Int, m__law_order [.scr ns, .int at_, .int count] = some (.lst (os.map .int)) ∧ (os.length : Int) = count ∧ (∀ o ∈ os, 0 ≤ o ∧ o < count) ∧ os.Nodup := by
  obtain ⟨zs, z1, z2, z3⟩ := digits_ok ns h hc
  unfold m__law_order callM b__law_order
  simp [z1, show count ≤ 100000 by omega, show -100000 ≤ count by omega]
  generalize hmb : mIns 4 _ _ = mb
  obtain ⟨E', h1, h2⟩ := runFor_inv (mg := gM 5) (mb := mb) (fun j E => ∃ (os : List Int) (s : Sl), E = [.fz (.scr ns), .fz (.int at_), .fz (.int count), .fz (.lst (zs.map .int)), .ow (os.map .int), s] ∧ os.length = j ∧ (∀ o ∈ os, 0 ≤ o ∧ o < (j : Int)) ∧ os.Nodup) (rangeD 0 count.toNat) 0 [.fz (.scr ns), .fz (.int at_), .fz (.int count), .fz (.lst (zs.map .int)), .ow [], .un] ⟨[], .un, rfl, rfl, fun o ho => (by cases ho), List.nodup_nil⟩ fun j d E hj hI => by
    obtain ⟨os, s, rfl, hl, ho, hn⟩ := hI
    obtain ⟨rfl, hjl⟩ := range_at hj
    obtain ⟨z, hz, hz2⟩ := atI_mapD (f := D.int) (xs := zs) (i := (j : Int)) (by omega) (by omega)
    have p1 : 0 ≤ z % ((j : Int) + 1) := Int.emod_nonneg _ (by omega)
    have p2 : z % ((j : Int) + 1) < (j : Int) + 1 := Int.emod_lt_of_pos _ (by omega)
    refine ⟨_, _, rfl, .inl ?_, ⟨os.take (z % ((j : Int) + 1)).toNat ++ [(j : Int)] ++ os.drop (z % ((j : Int) + 1)).toNat, .fz (.int (0 + j)), rfl, ?_, ?_, ?_⟩⟩
    · subst hmb
      simp [hz, show (0 : Int) < (j : Int) + 1 by omega, p1, show z % ((j : Int) + 1) < 100000 by omega, show os.length < 100000 by omega]
    · simp
      omega
    · intro o q
      have q : o ∈ os ∨ o = j := by
        rcases List.mem_append.mp q with q | q
        · rcases List.mem_append.mp q with q | q
          · exact .inl (List.mem_of_mem_take q)
          · exact .inr (List.mem_singleton.mp q)
        · exact .inl (List.mem_of_mem_drop q)
      rcases q with q | q
      · have := ho o q
        omega
      · omega
    · rw [List.append_assoc, List.singleton_append, List.perm_middle.nodup_iff, List.take_append_drop, List.nodup_cons]
      refine ⟨fun q => ?_, hn⟩
      have := ho _ q
      omega
  obtain ⟨os, s, rfl, hl, ho, hn⟩ := h2
  rw [rangeD_len] at hl ho
  refine ⟨os, (by rw [h1]; rfl), by omega, fun o q => ?_, hn⟩
  have := ho o q
  omega
theorem emod_ne {x d m : Int} (hx : 0 ≤ x ∧ x < m) (hd : 0 < d ∧ d < m) : x ≠ (x + d) % m := by
  by_cases h : x + d < m
  · rw [Int.emod_eq_of_lt (by omega) h]
    omega
  · have e : (x + d) % m = (x + d - m) % m := by
      have := Int.add_mul_emod_self_right (x + d - m) 1 m
      rw [← this]
      congr 1
      omega
    rw [e, Int.emod_eq_of_lt (by omega) (by omega)]
    omega
theorem bound_ok (digit scale : Int) : ∃ o : Option Int, m__law_bound [.int digit, .int scale] = some (oD o) := by
  unfold m__law_bound callM b__law_bound
  by_cases h1 : digit % 4 = 0
  · exact ⟨none, by simp [h1, oD]⟩
  · by_cases h2 : digit % 32 = 1
    · exact ⟨some 999999999999, by simp [h1, h2, oD]⟩
    · by_cases h3 : digit % 32 = 2
      · exact ⟨some (1 - 10 ^ 12), by simp [h1, h2, h3, oD, powOk_c]⟩
      · refine ⟨some ((digit / 32 % 19 - 9) * scale), ?_⟩
        have := Int.emod_nonneg (digit / 32) (show (19 : Int) ≠ 0 by decide)
        have := Int.emod_lt_of_pos (digit / 32) (show (0 : Int) < 19 by decide)
        simp [h1, h2, h3, oD, divOk_c, mulOk_l (i := digit / 32 % 19 - 9) (j := scale) (by omega)]
theorem extra_ok (zs : List Int) (ps : List (F × Str)) {count scale : Int} (hz : 5 ≤ zs.length) (hc : 2 ≤ count) (hp : 0 < ps.length) (ha : ∀ p ∈ ps, (0 ≤ p.1.a ∧ p.1.a < count) ∧ (0 ≤ p.1.b ∧ p.1.b < count) ∧ p.1.a ≠ p.1.b) :
    ∃ f : F, m__law_extra [.lst (zs.map .int), .lst (ps.map encP), .int count, .int scale] = some (encF f) ∧ (0 ≤ f.a ∧ f.a < count) ∧ (0 ≤ f.b ∧ f.b < count) ∧ f.a ≠ f.b := by
  match zs, hz with
  | z0 :: z1 :: z2 :: z3 :: z4 :: zr, _ =>
    have a0 : atI (List.map D.int (z0 :: z1 :: z2 :: z3 :: z4 :: zr)) 0 = some (.int z0) := atI_nat (j := 0) rfl
    have a1 : atI (List.map D.int (z0 :: z1 :: z2 :: z3 :: z4 :: zr)) 1 = some (.int z1) := atI_nat (j := 1) rfl
    have a2 : atI (List.map D.int (z0 :: z1 :: z2 :: z3 :: z4 :: zr)) 2 = some (.int z2) := atI_nat (j := 2) rfl
    have a3 : atI (List.map D.int (z0 :: z1 :: z2 :: z3 :: z4 :: zr)) 3 = some (.int z3) := atI_nat (j := 3) rfl
    have a4 : atI (List.map D.int (z0 :: z1 :: z2 :: z3 :: z4 :: zr)) 4 = some (.int z4) := atI_nat (j := 4) rfl
    generalize List.map D.int (z0 :: z1 :: z2 :: z3 :: z4 :: zr) = L at a0 a1 a2 a3 a4 ⊢
    obtain ⟨o3, b3⟩ := bound_ok z3 scale
    obtain ⟨o4, b4⟩ := bound_ok z4 scale
    have m1 : 0 ≤ z1 % count := Int.emod_nonneg _ (by omega)
    have m2 : z1 % count < count := Int.emod_lt_of_pos _ (by omega)
    have w1 : 0 ≤ z2 % (count - 1) := Int.emod_nonneg _ (by omega)
    have w2 : z2 % (count - 1) < count - 1 := Int.emod_lt_of_pos _ (by omega)
    have ne : z1 % count ≠ (z1 % count + 1 + z2 % (count - 1)) % count := by
      have := emod_ne (x := z1 % count) (d := 1 + z2 % (count - 1)) (m := count) ⟨m1, m2⟩ (by omega)
      rwa [← Int.add_assoc] at this
    have m3 : ∀ x, 0 ≤ x % count := fun x => Int.emod_nonneg _ (by omega)
    have m4 : ∀ x, x % count < count := fun x => Int.emod_lt_of_pos _ (by omega)
    have k1 := Int.emod_nonneg (z3 / 7) (show (19 : Int) ≠ 0 by decide)
    have k2 := Int.emod_lt_of_pos (z3 / 7) (show (0 : Int) < 19 by decide)
    have mo := mulOk_l (i := z3 / 7 % 19 - 9) (j := scale) (by omega)
    have q1 : 0 ≤ z1 % (ps.length : Int) := Int.emod_nonneg _ (by omega)
    have q2 : z1 % (ps.length : Int) < ps.length := Int.emod_lt_of_pos _ (by omega)
    obtain ⟨p, hp1, hp2⟩ := atI_mapD (f := encP) (xs := ps) q1 q2
    unfold m__law_extra callM b__law_extra
    by_cases h1 : z0 % 4 = 0
    · refine ⟨p.1, ?_, ha p (List.mem_of_getElem? hp2)⟩
      have e0 : atI [encF p.1, D.str p.2] 0 = some (encF p.1) := rfl
      simp [a0, a1, a2, a3, a4, h1, divOk_c, mo, show 0 < count by omega, show 1 < count by omega, hp1, show 0 < ps.length by omega, encP, e0]
    · by_cases h2 : z0 % 4 = 1
      · refine ⟨⟨z1 % count, (z1 % count + 1 + z2 % (count - 1)) % count, some ((z3 / 7 % 19 - 9) * scale + z4 % 3 - 1), some ((z3 / 7 % 19 - 9) * scale)⟩, ?_, ⟨m1, m2⟩, ⟨m3 _, m4 _⟩, ne⟩
        simp [a0, a1, a2, a3, a4, h1, h2, divOk_c, mo, show 0 < count by omega, show 1 < count by omega, encF, oD]
      · refine ⟨⟨z1 % count, (z1 % count + 1 + z2 % (count - 1)) % count, o3, o4⟩, ?_, ⟨m1, m2⟩, ⟨m3 _, m4 _⟩, ne⟩
        simp [a0, a1, a2, a3, a4, h1, h2, divOk_c, mo, show 0 < count by omega, show 1 < count by omega, encF, b3, b4]
def RingP (os : List Int) (width : Int) (j : Nat) (p : F × Str) : Prop := ∃ s e, os[j]? = some s ∧ os[(((j : Int) + 1) % width).toNat]? = some e ∧
  ((p.2 = "high" ∧ p.1.a = s ∧ p.1.b = e ∧ ∃ c, p.1.hi = some c) ∨ (p.2 = "low" ∧ p.1.a = e ∧ p.1.b = s ∧ ∃ c, p.1.lo = some c))
theorem pick5 {a b c d e : D} {r : Int} (h : 0 ≤ r ∧ r < 5) : ∃ x, atI [a, b, c, d, e] r = some x ∧ (x = a ∨ x = b ∨ x = c ∨ x = d ∨ x = e) := by
  have : r = 0 ∨ r = 1 ∨ r = 2 ∨ r = 3 ∨ r = 4 := by omega
  rcases this with rfl | rfl | rfl | rfl | rfl
  · exact ⟨a, rfl, .inl rfl⟩
  · exact ⟨b, rfl, .inr (.inl rfl)⟩
  · exact ⟨c, rfl, .inr (.inr (.inl rfl))⟩
  · exact ⟨d, rfl, .inr (.inr (.inr (.inl rfl)))⟩
  · exact ⟨e, rfl, .inr (.inr (.inr (.inr rfl)))⟩
theorem ring_facts_ok (ns os : List Int) {width scale : Int} (hw : 2 ≤ width ∧ width ≤ os.length ∧ width ≤ 1000) :
    ∃ ps : List (F × Str), mF__law_ring_facts [.scr ns, .lst (os.map .int), .int width, .int scale] = some (ps.map encP) ∧ (ps.length : Int) = width ∧ ∀ (j : Nat) (p : F × Str), ps[j]? = some p → RingP os width j p := by
  obtain ⟨zs, z1, z2, z3⟩ := digits_ok ns (at_ := 3) (count := 3 * width) (by omega) (by omega)
  obtain ⟨dr, d1, d2, d3⟩ := draw_ok ns (at_ := 4) (k := 0) (size := 5) (by omega) (by omega) (by omega)
  obtain ⟨y0, hy0, _⟩ := atI_mapD (f := D.int) (xs := zs) (i := 0) (by omega) (by omega)
  obtain ⟨g, hg, hg2⟩ := pick5 (a := .int (-1)) (b := .int (-1)) (c := .int 0) (d := .int 1) (e := .int (-1 - y0 % 99)) (r := dr) ⟨d2, d3⟩
  obtain ⟨goal, rfl⟩ : ∃ i : Int, g = .int i := by
    rcases hg2 with rfl | rfl | rfl | rfl | rfl <;> exact ⟨_, rfl⟩
  unfold mF__law_ring_facts callF b__law_ring_facts
  simp [mulOk_l, z1, hy0, d1, hg, show width ≤ 100000 by omega, show -100000 ≤ width by omega]
  generalize hmb : mSeq (mSet 8 _) _ = mb
  obtain ⟨E', h1, h2⟩ := runFor_inv (mg := gM 7) (mb := mb) (fun j E => ∃ (ps : List (F × Str)) (goal : Int) (s7 s8 s9 s10 s11 : Sl), E = [.fz (.scr ns), .fz (.lst (os.map .int)), .fz (.int width), .fz (.int scale), .fz (.lst (zs.map .int)), .fz (.int goal), .ow (ps.map encP), s7, s8, s9, s10, s11] ∧ ps.length = j ∧
      ∀ (j : Nat) (p : F × Str), ps[j]? = some p → RingP os width j p) (rangeD 0 width.toNat) 0 [.fz (.scr ns), .fz (.lst (os.map .int)), .fz (.int width), .fz (.int scale), .fz (.lst (zs.map .int)), .fz (.int goal), .ow [], .un, .un, .un, .un, .un] ⟨[], goal, .un, .un, .un, .un, .un, rfl, rfl, fun j p h => by simp at h⟩ fun j d E hj hI => by
    obtain ⟨ps, gl, s7, s8, s9, s10, s11, rfl, hl, hp⟩ := hI
    obtain ⟨rfl, hjl⟩ := range_at hj
    have hj1 : (j : Int) < width := by omega
    have n1 : 0 ≤ ((j : Int) + 1) % width := Int.emod_nonneg _ (by omega)
    have n2 : ((j : Int) + 1) % width < width := Int.emod_lt_of_pos _ (by omega)
    obtain ⟨s, hs, hs2⟩ := atI_mapD (f := D.int) (xs := os) (i := (j : Int)) (by omega) (by omega)
    obtain ⟨e, he, he2⟩ := atI_mapD (f := D.int) (xs := os) (i := ((j : Int) + 1) % width) n1 (by omega)
    obtain ⟨u0, hu0, _⟩ := atI_mapD (f := D.int) (xs := zs) (i := 3 * (j : Int)) (by omega) (by omega)
    obtain ⟨u1, hu1, _⟩ := atI_mapD (f := D.int) (xs := zs) (i := 3 * (j : Int) + 1) (by omega) (by omega)
    obtain ⟨u2, hu2, _⟩ := atI_mapD (f := D.int) (xs := zs) (i := 3 * (j : Int) + 2) (by omega) (by omega)
    obtain ⟨o1, ho1⟩ := bound_ok u1 scale
    have k1 := Int.emod_nonneg u0 (show (19 : Int) ≠ 0 by decide)
    have k2 := Int.emod_lt_of_pos u0 (show (0 : Int) < 19 by decide)
    have mo := mulOk_l (i := u0 % 19 - 9) (j := scale) (by omega)
    have pl : ps.length < 100000 := by omega
    simp at hs2
    -- the cost
    obtain ⟨cost, hcost⟩ : ∃ cost : Int, cost = (if (j : Int) = width - 1 then gl else (u0 % 19 - 9) * scale) := ⟨_, rfl⟩
    have grow : ∀ q : F × Str, RingP os width j q → ∀ (i : Nat) (p : F × Str), (ps ++ [q])[i]? = some p → RingP os width i p := fun q hq i p hi => by
      by_cases h : i < ps.length
      · rw [List.getElem?_append_left h] at hi
        exact hp i p hi
      · have hi2 := (List.getElem?_eq_some_iff.mp hi).1
        rw [List.length_append, List.length_singleton] at hi2
        have e1 : i = ps.length := by omega
        subst e1
        rw [List.getElem?_append_right (by omega), Nat.sub_self] at hi
        cases hi
        rw [hl, Nat.zero_add]
        exact hq
    by_cases h0 : u2 % 2 = 0
    · refine ⟨_, _, rfl, .inl ?_, ⟨ps ++ [(F.mk s e o1 (some cost), ("high" : Str))], gl - cost, .fz (.int (0 + j)), .fz (.int s), .fz (.int e), .fz (.int cost), .fz (oD o1), rfl, by simp [hl], grow _ ⟨s, e, hs2, he2, .inl ⟨rfl, rfl, rfl, cost, rfl⟩⟩⟩⟩
      subst hmb
      by_cases hw1 : (j : Int) = width - 1
      · rw [if_pos hw1] at hcost
        subst hcost
        have hwt : ((j : Int) = width - 1) = True := eq_true hw1
        simp [hs, he, hu0, hu1, hu2, ho1, mulOk_l, mo, hwt, h0, pl, encP, encF, oD, show 0 < width by omega]
      · rw [if_neg hw1] at hcost
        subst hcost
        simp [hs, he, hu0, hu1, hu2, ho1, mulOk_l, mo, hw1, h0, pl, encP, encF, oD, show 0 < width by omega]
    · refine ⟨_, _, rfl, .inl ?_, ⟨ps ++ [(F.mk e s (some (0 - cost)) o1, ("low" : Str))], gl - cost, .fz (.int (0 + j)), .fz (.int s), .fz (.int e), .fz (.int cost), .fz (oD o1), rfl, by simp [hl], grow _ ⟨s, e, hs2, he2, .inr ⟨rfl, rfl, rfl, _, rfl⟩⟩⟩⟩
      subst hmb
      by_cases hw1 : (j : Int) = width - 1
      · rw [if_pos hw1] at hcost
        subst hcost
        have hwt : ((j : Int) = width - 1) = True := eq_true hw1
        simp [hs, he, hu0, hu1, hu2, ho1, mulOk_l, mo, hwt, h0, pl, encP, encF, oD, show 0 < width by omega]
      · rw [if_neg hw1] at hcost
        subst hcost
        simp [hs, he, hu0, hu1, hu2, ho1, mulOk_l, mo, hw1, h0, pl, encP, encF, oD, show 0 < width by omega]
  obtain ⟨ps, gl, s7, s8, s9, s10, s11, rfl, hl, hp⟩ := h2
  rw [rangeD_len] at hl
  exact ⟨ps, by rw [h1]; rfl, by omega, fun j a b h => hp j (a, b) h⟩
end Sx

set_option Elab.async false
set_option linter.all false
set_option maxRecDepth 100000
set_option maxHeartbeats 4000000
namespace Sx
open PySem L2
def cutG {α : Type} (xs : List α) (lo hi : Option Int) : List α := (xs.drop (HT.sIx xs.length 0 lo)).take (HT.sIx xs.length xs.length hi - HT.sIx xs.length 0 lo)
theorem cutD_map {α : Type} (f : α → D) (xs : List α) (lo hi : Option Int) : cutD (xs.map f) lo hi = (cutG xs lo hi).map f := by
  unfold cutD cutG
  rw [List.length_map, List.map_take, List.map_drop]
theorem sIx_pos {n d : Nat} {i : Int} (h : 0 ≤ i) : HT.sIx n d (some i) = min i.toNat n := by
  obtain ⟨k, rfl⟩ : ∃ k : Nat, i = k := ⟨i.toNat, by omega⟩
  exact HT.sIx_nat n d k
theorem cutG_ab {α : Type} {xs : List α} {a b : Int} (h : 0 ≤ a ∧ a ≤ b ∧ b ≤ xs.length) : cutG xs (some a) (some b) = (xs.drop a.toNat).take (b - a).toNat := by
  unfold cutG
  rw [sIx_pos h.1, sIx_pos (by omega)]
  congr 1
  · omega
  · congr 1
    omega
theorem nolst_encF (f : F) : nolst (encF f) = true := by
  obtain ⟨a, b, lo, hi⟩ := f
  cases lo <;> cases hi <;> rfl
def dfP : F × Str := (⟨0, 0, none, none⟩, "")
def gp (pl : List (F × Str)) (i : Nat) : F × Str := pl.getD i dfP
def encE (pl : List (F × Str)) (i : Nat) : D := .tup [.int (i : Int), encF (gp pl i).1, .str (gp pl i).2]
theorem gp_at {pl : List (F × Str)} {i : Nat} {p : F × Str} (h : pl[i]? = some p) : gp pl i = p := by
  unfold gp
  rw [List.getD_eq_getElem?_getD, h]
  rfl
structure FactsOk (count : Int) (os : List Int) (fs : List F) (rg : List (Int × Str)) : Prop where
  cnt : 2 ≤ count ∧ count ≤ 60
  ol : (os.length : Int) = count
  orr : ∀ o ∈ os, 0 ≤ o ∧ o < count
  rl : 2 ≤ (rg.length : Int) ∧ (rg.length : Int) ≤ count
  fl : fs.length ≤ 400
  fr : ∀ f ∈ fs, (0 ≤ f.a ∧ f.a < count) ∧ (0 ≤ f.b ∧ f.b < count) ∧ f.a ≠ f.b
  ring : ∀ (j : Nat) (k : Int) (side : Str), rg[j]? = some (k, side) → ∃ f s e, 0 ≤ k ∧ fs[k.toNat]? = some f ∧ os[j]? = some s ∧ os[(((j : Int) + 1) % (rg.length : Int)).toNat]? = some e ∧
    ((side = "high" ∧ f.a = s ∧ f.b = e ∧ ∃ c, f.hi = some c) ∨ (side = "low" ∧ f.a = e ∧ f.b = s ∧ ∃ c, f.lo = some c))
  dis : ∀ (i j : Nat) (k : Int) (s t : Str), rg[i]? = some (k, s) → rg[j]? = some (k, t) → i = j
theorem seq_nx {a b : En → Option Out} {E : En} (E1 : En) (h : a E = some (.nx E1)) : mSeq a b E = b E1 := by
  show (a E).bind _ = _
  rw [h]
  rfl
theorem seq_rt {a b : En → Option Out} {E : En} {d : D} (h : a E = some (.rt d)) : mSeq a b E = some (.rt d) := by
  show (a E).bind _ = _
  rw [h]
  rfl
def run (o : Option Out) : Option D := match o with
  | some (.rt d) => some d
  | some (.rf ds) => some (.lst ds)
  | some (.nx _) => some .non
  | _ => none
theorem mat_nx {a b : En → Option Out} {E : En} {d : D} (E1 : En) (h : a E = some (.nx E1)) (k : run (b E1) = some d) : run (mSeq a b E) = some d := by
  rw [seq_nx E1 h]
  exact k
theorem mat_if {c : En → Option Bool} {a b r : En → Option Out} {E : En} {d : D} (E1 : En) (k : Bool) (h : c E = some k) (h1 : k = true → a E = some (.nx E1)) (h2 : k = false → b E = some (.nx E1)) (g : run (r E1) = some d) : run (mSeq (mIfS c a b) r E) = some d := by
  refine mat_nx E1 ?_ g
  show (c E).bind _ = _
  rw [h]
  cases k with
  | true => exact h1 rfl
  | false => exact h2 rfl
theorem mat_for {mi : En → Option (List D)} {mg : En → D → Option En} {mb r : En → Option Out} {E : En} {d : D} (ds : List D) (E1 : En) (h : mi E = some ds) (h1 : runFor mg mb ds E = some (.nx E1)) (g : run (r E1) = some d) : run (mSeq (mFor mi mg mb) r E) = some d := by
  refine mat_nx E1 ?_ g
  show (mi E).bind _ = _
  rw [h]
  exact h1
theorem Paired.fn {α β : Type} {f : α → β} : ∀ {xs : List α} {ys : List β}, Paired (fun a b => b = f a) xs ys → ys = xs.map f
  | _, _, .nil => rfl
  | _, _, .cons h t => by rw [h, Paired.fn t]; rfl
theorem rep_one {α : Type} (n : Nat) (x : α) : (List.replicate n [x]).flatten = List.replicate n x := by
  induction n with
  | zero => rfl
  | succ n ih => rw [List.replicate_succ, List.flatten_cons, ih]; rfl
def eF (ns : List Int) (large : Bool) (a2 a3 a4 a5 a6 a7 a8 a9 a10 a11 a12 a13 : Sl) : En := [.fz (.scr ns), .fz (.bl large), a2, a3, a4, a5, a6, a7, a8, a9, a10, a11, a12, a13]
theorem facts_ok (ns : List Int) (large : Bool) : ∃ (count : Int) (os : List Int) (fs : List F) (rg : List (Int × Str)), m__law_facts [.scr ns, .bl large] = some (.tup [.int count, .lst (os.map .int), .lst (fs.map encF), .lst (rg.map encS)]) ∧ FactsOk count os fs rg := by
  obtain ⟨d1, e1, l1, u1⟩ := draw_ok ns (at_ := 0) (k := 1) (size := 6) (by omega) (by omega) (by omega)
  obtain ⟨d2, e2, l2, u2⟩ := draw_ok ns (at_ := 0) (k := 2) (size := 6) (by omega) (by omega) (by omega)
  obtain ⟨count, hcount⟩ : ∃ c : Int, c = (if large = true then 60 else 2 + d1) := ⟨_, rfl⟩
  have hc : 2 ≤ count ∧ count ≤ 60 := by
    rw [hcount]
    split <;> omega
  obtain ⟨d3, e3, l3, u3⟩ := draw_ok ns (at_ := 0) (k := 3) (size := count - 1) (by omega) (by omega) (by omega)
  obtain ⟨width, hwidth⟩ : ∃ c : Int, c = 2 + d3 := ⟨_, rfl⟩
  obtain ⟨extras, hextras⟩ : ∃ c : Int, c = (if large = true then 400 - width else d2) := ⟨_, rfl⟩
  have hx : 0 ≤ extras ∧ width + extras ≤ 400 := by
    rw [hextras]
    split <;> omega
  obtain ⟨d4, e4, l4, u4⟩ := draw_ok ns (at_ := 0) (k := 4) (size := 5) (by omega) (by omega) (by omega)
  obtain ⟨sc, hsc, hsc2⟩ := pick5 (a := .int 1) (b := .int 1) (c := .int 1) (d := .int 1000) (e := .int 1000000000) (r := d4) ⟨l4, u4⟩
  obtain ⟨scale, rfl⟩ : ∃ i : Int, sc = .int i := by
    rcases hsc2 with rfl | rfl | rfl | rfl | rfl <;> exact ⟨_, rfl⟩
  obtain ⟨os, o1, o2, o3, o4⟩ := order_ok ns (at_ := 1) (count := count) (by omega) (by omega)
  obtain ⟨ps, p1, p2, p3⟩ := ring_facts_ok ns os (width := width) (scale := scale) (by omega)
  obtain ⟨zs, z1, z2, z3⟩ := digits_ok ns (at_ := 5) (count := 5 * extras) (by omega) (by omega)
  have pin : ∀ p ∈ ps, (0 ≤ p.1.a ∧ p.1.a < count) ∧ (0 ≤ p.1.b ∧ p.1.b < count) ∧ p.1.a ≠ p.1.b := fun p hp => by
    obtain ⟨j, hj⟩ := List.getElem?_of_mem hp
    obtain ⟨s, e, h1, h2, h3⟩ := p3 j p hj
    have q1 := o3 s (List.mem_of_getElem? h1)
    have q2 := o3 e (List.mem_of_getElem? h2)
    have jl : j < ps.length := (List.getElem?_eq_some_iff.mp hj).1
    have ne : s ≠ e := fun q => by
      subst q
      have := (List.getElem?_inj (List.getElem?_eq_some_iff.mp h1).1 o4).mp (h1.trans h2.symm)
      by_cases z : (j : Int) + 1 < width
      · rw [Int.emod_eq_of_lt (by omega) z] at this
        omega
      · rw [show (j : Int) + 1 = width by omega, Int.emod_self] at this
        omega
    rcases h3 with ⟨_, a, b, _⟩ | ⟨_, a, b, _⟩ <;> rw [a, b]
    · exact ⟨q1, q2, ne⟩
    · exact ⟨q2, q1, fun z => ne z.symm⟩
  -- the first loop
  obtain ⟨E5, f5, pl, s9, rfl, g1, g2, g3⟩ : ∃ E5, runFor (gM 9) (mApp 7 (mTup (mCons (mCallT 4 m__law_extra (mCons (mList (fun E => (((mVarT 8) E).bind lstOf).bind fun ds => ((fun E => ((mBin (intOpC mulOk fun i j => .int (i * j)) (mC (.int 5)) (mVarT 9)) E).bind inOf) E).bind fun l => ((fun E => ((mBin addD (mBin (intOpC mulOk fun i j => .int (i * j)) (mC (.int 5)) (mVarT 9)) (mC (.int 5))) E).bind inOf) E).map fun h => cutD ds l h)) (mCons (mVarT 7) (mCons (mVarT 2) (mCons (mVarT 5) mNil))))) (mCons (mC (.str "")) mNil)))) (rangeD 0 extras.toNat)
      (eF ns large (.fz (.int count)) (.fz (.int extras)) (.fz (.int width)) (.fz (.int scale)) (.fz (.lst (os.map .int))) (.ow (ps.map encP)) (.fz (.lst (zs.map .int))) .un .un .un .un .un) = some (.nx E5) ∧
      ∃ (pl : List (F × Str)) (s9 : Sl), E5 = eF ns large (.fz (.int count)) (.fz (.int extras)) (.fz (.int width)) (.fz (.int scale)) (.fz (.lst (os.map .int))) (.ow (pl.map encP)) (.fz (.lst (zs.map .int))) s9 .un .un .un .un ∧ (pl.length : Int) = width + extras ∧
        (∀ p ∈ pl, (0 ≤ p.1.a ∧ p.1.a < count) ∧ (0 ≤ p.1.b ∧ p.1.b < count) ∧ p.1.a ≠ p.1.b) ∧ ∀ i : Nat, i < ps.length → pl[i]? = ps[i]? := by
    generalize hmb : mApp 7 _ = mb
    obtain ⟨E', h1, h2⟩ := runFor_inv (mg := gM 9) (mb := mb) (fun j E => ∃ (pl : List (F × Str)) (s9 : Sl), E = eF ns large (.fz (.int count)) (.fz (.int extras)) (.fz (.int width)) (.fz (.int scale)) (.fz (.lst (os.map .int))) (.ow (pl.map encP)) (.fz (.lst (zs.map .int))) s9 .un .un .un .un ∧ (pl.length : Int) = width + j ∧
        (∀ p ∈ pl, (0 ≤ p.1.a ∧ p.1.a < count) ∧ (0 ≤ p.1.b ∧ p.1.b < count) ∧ p.1.a ≠ p.1.b) ∧ ∀ i : Nat, i < ps.length → pl[i]? = ps[i]?) (rangeD 0 extras.toNat) 0 _ ⟨ps, .un, rfl, by omega, pin, fun _ _ => rfl⟩ fun j d E hj hI => by
      obtain ⟨pl, s9, rfl, b1, b2, b3⟩ := hI
      obtain ⟨rfl, hjl⟩ := range_at hj
      have cut := cutG_ab (xs := zs) (a := 5 * (j : Int)) (b := 5 * (j : Int) + 5) (by omega)
      have cl : (cutG zs (some (5 * (j : Int))) (some (5 * (j : Int) + 5))).length = 5 := by
        rw [cut, List.length_take, List.length_drop]
        omega
      obtain ⟨f, f1, f2, f3⟩ := extra_ok (cutG zs (some (5 * (j : Int))) (some (5 * (j : Int) + 5))) pl (count := count) (scale := scale) (by omega) hc.1 (by omega) b2
      refine ⟨_, _, rfl, .inl ?_, ⟨pl ++ [(f, ("" : Str))], .fz (.int (0 + j)), rfl, by rw [List.length_append, List.length_singleton]; omega, fun p hp => ?_, fun i hi => ?_⟩⟩
      · subst hmb
        simp [eF, mulOk_l, cutD_map, f1, nolst_encF, encP, show pl.length < 100000 by omega]
      · rcases List.mem_append.mp hp with q | q
        · exact b2 p q
        · rw [List.mem_singleton.mp q]
          exact ⟨f2, f3⟩
      · rw [List.getElem?_append_left (by omega)]
        exact b3 i hi
    rw [rangeD_len] at h2
    obtain ⟨pl, s9, rfl, b1, b2, b3⟩ := h2
    exact ⟨_, h1, pl, s9, rfl, by omega, b2, b3⟩
  obtain ⟨ws, w1, w2, w3⟩ := digits_ok ns (at_ := 6) (count := (pl.length : Int)) (by omega) (by omega)
  have plen : pl.length ≤ 400 := by omega
  -- the second loop
  obtain ⟨E6, f6, is, t9, rfl, i1, i2, i3⟩ : ∃ E6, runFor (gM 9) (mIns 11 (mBin (intOpC (fun _ j => decide (0 < j)) fun i j => .int (i % j)) (mUn intD (mBin ixD (mVarT 10) (mVarT 9))) (mBin addD (mVarT 9) (mC (.int 1)))) (mTup (mCons (mVar 9) (mCons (mBin ixD (mBin ixD (mVarT 7) (mVarT 9)) (mC (.int 0))) (mCons (mBin ixD (mBin ixD (mVarT 7) (mVarT 9)) (mC (.int 1))) mNil))))) (rangeD 0 pl.length)
      (eF ns large (.fz (.int count)) (.fz (.int extras)) (.fz (.int width)) (.fz (.int scale)) (.fz (.lst (os.map .int))) (.ow (pl.map encP)) (.fz (.lst (zs.map .int))) s9 (.fz (.lst (ws.map .int))) (.ow []) .un .un) = some (.nx E6) ∧
      ∃ (is : List Nat) (s9 : Sl), E6 = eF ns large (.fz (.int count)) (.fz (.int extras)) (.fz (.int width)) (.fz (.int scale)) (.fz (.lst (os.map .int))) (.ow (pl.map encP)) (.fz (.lst (zs.map .int))) s9 (.fz (.lst (ws.map .int))) (.ow (is.map (encE pl))) .un .un ∧ is.length = pl.length ∧ (∀ i ∈ is, i < pl.length) ∧ ∀ i < pl.length, i ∈ is := by
    generalize hmb : mIns 11 _ _ = mb
    obtain ⟨E', h1, h2⟩ := runFor_inv (mg := gM 9) (mb := mb) (fun j E => ∃ (is : List Nat) (s9 : Sl), E = eF ns large (.fz (.int count)) (.fz (.int extras)) (.fz (.int width)) (.fz (.int scale)) (.fz (.lst (os.map .int))) (.ow (pl.map encP)) (.fz (.lst (zs.map .int))) s9 (.fz (.lst (ws.map .int))) (.ow (is.map (encE pl))) .un .un ∧ is.length = j ∧ (∀ i ∈ is, i < j) ∧ ∀ i < j, i ∈ is) (rangeD 0 pl.length) 0 _ ⟨[], s9, rfl, rfl, fun i hi => (by cases hi), fun i hi => (by omega)⟩ fun j d E hj hI => by
      obtain ⟨is, s9, rfl, b1, b2, b3⟩ := hI
      obtain ⟨rfl, hjl⟩ := range_at hj
      rw [Nat.zero_add] at b1 b2 b3
      obtain ⟨z, hz, _⟩ := atI_mapD (f := D.int) (xs := ws) (i := (j : Int)) (by omega) (by omega)
      obtain ⟨p, hp, hp2⟩ := atI_mapD (f := encP) (xs := pl) (i := (j : Int)) (by omega) (by omega)
      have gpj : gp pl j = p := gp_at (by simpa using hp2)
      have q1 : 0 ≤ z % ((j : Int) + 1) := Int.emod_nonneg _ (by omega)
      have q2 : z % ((j : Int) + 1) < (j : Int) + 1 := Int.emod_lt_of_pos _ (by omega)
      have e0 : atI [encF p.1, D.str p.2] 0 = some (encF p.1) := rfl
      have e1 : atI [encF p.1, D.str p.2] 1 = some (D.str p.2) := rfl
      have memq : ∀ i, i ∈ is.take (z % ((j : Int) + 1)).toNat ++ [j] ++ is.drop (z % ((j : Int) + 1)).toNat ↔ i ∈ is ∨ i = j := fun i => by
        have := List.take_append_drop (z % ((j : Int) + 1)).toNat is
        constructor
        · intro q
          rcases List.mem_append.mp q with q | q
          · rcases List.mem_append.mp q with q | q
            · exact .inl (List.mem_of_mem_take q)
            · exact .inr (List.mem_singleton.mp q)
          · exact .inl (List.mem_of_mem_drop q)
        · intro q
          rcases q with q | q
          · rw [← this] at q
            rcases List.mem_append.mp q with q | q
            · exact List.mem_append_left _ (List.mem_append_left _ q)
            · exact List.mem_append_right _ q
          · subst q
            exact List.mem_append_left _ (List.mem_append_right _ (List.mem_singleton.mpr rfl))
      refine ⟨_, _, rfl, .inl ?_, ⟨is.take (z % ((j : Int) + 1)).toNat ++ [j] ++ is.drop (z % ((j : Int) + 1)).toNat, .fz (.int (0 + j)), rfl, ?_, fun i hi => ?_, fun i hi => ?_⟩⟩
      · subst hmb
        simp [eF, hz, hp, encP, e0, e1, show (0 : Int) < (j : Int) + 1 by omega, q1, show z % ((j : Int) + 1) < 100000 by omega, show is.length < 100000 by omega, encE, gpj]
      · rw [List.length_append, List.length_append, List.length_take, List.length_drop, List.length_singleton]
        omega
      · rcases (memq i).mp hi with q | q
        · have := b2 i q
          omega
        · omega
      · refine (memq i).mpr ?_
        by_cases q : i = j
        · exact .inr q
        · exact .inl (b3 i (by omega))
    rw [rangeD_len, Nat.zero_add] at h2
    obtain ⟨is, s9, rfl, b1, b2, b3⟩ := h2
    exact ⟨_, h1, is, s9, rfl, b1, b2, b3⟩
  -- the third loop
  have wlen : width.toNat = ps.length := by omega
  obtain ⟨E7, f7, rg, u9, rfl, r1, r2⟩ : ∃ E7, runFor (gM 9) (mIfS (fun E => ((mBin (intOp fun i j => .bl (decide (i < j))) (mBin ixD (mBin ixD (mVarT 11) (mVarT 9)) (mC (.int 0))) (mVarT 4)) E).bind blOf) (mSub 12 (mTup (mCons (mVar 9) (mCons (mBin ixD (mBin ixD (mVarT 11) (mVarT 9)) (mC (.int 2))) mNil))) (mBin ixD (mBin ixD (mVarT 11) (mVarT 9)) (mC (.int 0)))) mNext) (rangeD 0 is.length)
      (eF ns large (.fz (.int count)) (.fz (.int extras)) (.fz (.int width)) (.fz (.int scale)) (.fz (.lst (os.map .int))) (.ow (pl.map encP)) (.fz (.lst (zs.map .int))) t9 (.fz (.lst (ws.map .int))) (.ow (is.map (encE pl))) (.ow ((List.replicate width.toNat ((0 : Int), ("" : Str))).map encS)) .un) = some (.nx E7) ∧
      ∃ (rg : List (Int × Str)) (s9 : Sl), E7 = eF ns large (.fz (.int count)) (.fz (.int extras)) (.fz (.int width)) (.fz (.int scale)) (.fz (.lst (os.map .int))) (.ow (pl.map encP)) (.fz (.lst (zs.map .int))) s9 (.fz (.lst (ws.map .int))) (.ow (is.map (encE pl))) (.ow (rg.map encS)) .un ∧ (rg.length : Int) = width ∧
        ∀ j : Nat, (j : Int) < width → (∀ k < is.length, is[k]? ≠ some j) ∨ ∃ k < is.length, is[k]? = some j ∧ rg[j]? = some ((k : Int), (gp pl j).2) := by
    generalize hmb : mIfS _ _ _ = mb
    obtain ⟨E', h1, h2⟩ := runFor_inv (mg := gM 9) (mb := mb) (fun m E => ∃ (rg : List (Int × Str)) (s9 : Sl), E = eF ns large (.fz (.int count)) (.fz (.int extras)) (.fz (.int width)) (.fz (.int scale)) (.fz (.lst (os.map .int))) (.ow (pl.map encP)) (.fz (.lst (zs.map .int))) s9 (.fz (.lst (ws.map .int))) (.ow (is.map (encE pl))) (.ow (rg.map encS)) .un ∧ (rg.length : Int) = width ∧
        ∀ j : Nat, (j : Int) < width → (∀ k < m, is[k]? ≠ some j) ∨ ∃ k < m, is[k]? = some j ∧ rg[j]? = some ((k : Int), (gp pl j).2)) (rangeD 0 is.length) 0 _ ⟨List.replicate width.toNat ((0 : Int), ("" : Str)), t9, rfl, by rw [List.length_replicate]; omega, fun j hj => .inl fun k hk => (by omega)⟩ fun m d E hj hI => by
      obtain ⟨rg, s9, rfl, b1, b2⟩ := hI
      obtain ⟨rfl, hml⟩ := range_at hj
      rw [Nat.zero_add] at b2 ⊢
      obtain ⟨i, hi, hi2⟩ := atI_mapD (f := encE pl) (xs := is) (i := (m : Int)) (by omega) (by omega)
      have hi3 : is[m]? = some i := by simpa using hi2
      have e0 : atI [D.int (i : Int), encF (gp pl i).1, D.str (gp pl i).2] 0 = some (D.int i) := rfl
      have e2 : atI [D.int (i : Int), encF (gp pl i).1, D.str (gp pl i).2] 2 = some (D.str (gp pl i).2) := rfl
      by_cases hw : (i : Int) < width
      · have ix : ixN rg.length (i : Int) = some i := by
          unfold ixN
          rw [if_pos (by omega), if_pos (by omega)]
          rfl
        refine ⟨_, _, rfl, .inl ?_, ⟨rg.set i ((m : Int), (gp pl i).2), .fz (.int (0 + m)), rfl, by rw [List.length_set]; exact b1, fun j hj => ?_⟩⟩
        · subst hmb
          simp [eF, hi, encE, e0, e2, hw, ix, encS]
        · by_cases q : j = i
          · subst q
            exact .inr ⟨m, by omega, hi3, List.getElem?_set_self (by omega)⟩
          · rcases b2 j hj with b | ⟨k, k1, k2, k3⟩
            · refine .inl fun k hk e => ?_
              by_cases z : k = m
              · subst z
                rw [hi3] at e
                exact q (Option.some.inj e).symm
              · exact b k (by omega) e
            · exact .inr ⟨k, by omega, k2, by rw [List.getElem?_set_ne (fun z => q z.symm)]; exact k3⟩
      · refine ⟨_, _, rfl, .inl ?_, ⟨rg, .fz (.int (0 + m)), rfl, b1, fun j hj => ?_⟩⟩
        · subst hmb
          simp [eF, hi, encE, e0, e2, hw, encS]
        · rcases b2 j hj with b | ⟨k, k1, k2, k3⟩
          · refine .inl fun k hk e => ?_
            by_cases z : k = m
            · subst z
              rw [hi3] at e
              cases e
              exact hw hj
            · exact b k (by omega) e
          · exact .inr ⟨k, by omega, k2, k3⟩
    rw [rangeD_len, Nat.zero_add] at h2
    obtain ⟨rg, s9, rfl, b1, b2⟩ := h2
    exact ⟨_, h1, rg, s9, rfl, b1, b2⟩
  refine ⟨count, os, is.map fun i => (gp pl i).1, rg, ?_, ?_⟩
  · unfold m__law_facts b__law_facts
    show run (mSeq _ _ (eF ns large .un .un .un .un .un .un .un .un .un .un .un .un)) = _
    refine mat_nx (eF ns large (.fz (.int (2 + d1))) .un .un .un .un .un .un .un .un .un .un .un) (by simp [eF, e1]) ?_
    refine mat_nx (eF ns large (.fz (.int (2 + d1))) (.fz (.int d2)) .un .un .un .un .un .un .un .un .un .un) (by simp [eF, e2]) ?_
    refine mat_if (eF ns large (.fz (.int count)) (.fz (.int d2)) .un .un .un .un .un .un .un .un .un .un) large (by simp [eF]) (fun h => by rw [hcount, if_pos h]; simp [eF]) (fun h => by rw [hcount, if_neg (by rw [h]; decide)]; simp [eF]) ?_
    refine mat_nx (eF ns large (.fz (.int count)) (.fz (.int d2)) (.fz (.int width)) .un .un .un .un .un .un .un .un .un) (by simp [eF, e3, hwidth]) ?_
    refine mat_if (eF ns large (.fz (.int count)) (.fz (.int extras)) (.fz (.int width)) .un .un .un .un .un .un .un .un .un) large (by simp [eF]) (fun h => by rw [hextras, if_pos h]; simp [eF]) (fun h => by rw [hextras, if_neg (by rw [h]; decide)]; simp [eF]) ?_
    refine mat_nx (eF ns large (.fz (.int count)) (.fz (.int extras)) (.fz (.int width)) (.fz (.int scale)) .un .un .un .un .un .un .un .un) (by simp [eF, e4, powOk_c, hsc]) ?_
    refine mat_nx (eF ns large (.fz (.int count)) (.fz (.int extras)) (.fz (.int width)) (.fz (.int scale)) (.fz (.lst (os.map .int))) .un .un .un .un .un .un .un) (by simp [eF, o1]) ?_
    refine mat_nx (eF ns large (.fz (.int count)) (.fz (.int extras)) (.fz (.int width)) (.fz (.int scale)) (.fz (.lst (os.map .int))) (.ow (ps.map encP)) .un .un .un .un .un .un) (by simp [eF, p1]) ?_
    refine mat_nx (eF ns large (.fz (.int count)) (.fz (.int extras)) (.fz (.int width)) (.fz (.int scale)) (.fz (.lst (os.map .int))) (.ow (ps.map encP)) (.fz (.lst (zs.map .int))) .un .un .un .un .un) (by simp [eF, z1, mulOk_l]) ?_
    refine mat_for (rangeD 0 extras.toNat) _ (by simp [eF, show extras ≤ 100000 by omega, show -100000 ≤ extras by omega]) f5 ?_
    refine mat_nx (eF ns large (.fz (.int count)) (.fz (.int extras)) (.fz (.int width)) (.fz (.int scale)) (.fz (.lst (os.map .int))) (.ow (pl.map encP)) (.fz (.lst (zs.map .int))) s9 (.fz (.lst (ws.map .int))) .un .un .un) (by simp [eF, w1]) ?_
    refine mat_nx (eF ns large (.fz (.int count)) (.fz (.int extras)) (.fz (.int width)) (.fz (.int scale)) (.fz (.lst (os.map .int))) (.ow (pl.map encP)) (.fz (.lst (zs.map .int))) s9 (.fz (.lst (ws.map .int))) (.ow []) .un .un) (by simp [eF]) ?_
    refine mat_for (rangeD 0 pl.length) _ (by simp [eF, show (pl.length : Int) ≤ 100000 by omega, show -100000 ≤ (pl.length : Int) by omega]) f6 ?_
    refine mat_nx (eF ns large (.fz (.int count)) (.fz (.int extras)) (.fz (.int width)) (.fz (.int scale)) (.fz (.lst (os.map .int))) (.ow (pl.map encP)) (.fz (.lst (zs.map .int))) t9 (.fz (.lst (ws.map .int))) (.ow (is.map (encE pl))) (.ow ((List.replicate width.toNat ((0 : Int), ("" : Str))).map encS)) .un) (by simp [eF, rep_one, encS, show width ≤ 100000 by omega, show -100000 ≤ width by omega, show width.toNat ≤ 100000 by omega]) ?_
    refine mat_for (rangeD 0 is.length) _ (by simp [eF, show (is.length : Int) ≤ 100000 by omega, show -100000 ≤ (is.length : Int) by omega]) f7 ?_
    obtain ⟨ys, c1, c2⟩ := runComp_enc (mg := gM 13) (mt := mYes) (me := mBin ixD (mVarT 13) (mC (.int 1))) (E0 := eF ns large (.fz (.int count)) (.fz (.int extras)) (.fz (.int width)) (.fz (.int scale)) (.fz (.lst (os.map .int))) (.ow (pl.map encP)) (.fz (.lst (zs.map .int))) u9 (.fz (.lst (ws.map .int))) (.ow (is.map (encE pl))) (.fz (.lst (rg.map encS))) .un) (encE pl) encF (fun i f => f = (gp pl i).1) is fun i _ => by
      have e1 : atI [D.int (i : Int), encF (gp pl i).1, D.str (gp pl i).2] 1 = some (encF (gp pl i).1) := rfl
      exact ⟨_, _, rfl, rfl, by simp [eF, encE, e1], rfl⟩
    have cy := Paired.fn c2
    rw [cy] at c1
    simp [eF, run] at c1 ⊢
    simp [c1, show is.length ≤ 100000 by omega]
  · have there : ∀ j : Nat, (j : Int) < width → ∃ k : Nat, is[k]? = some j ∧ rg[j]? = some ((k : Int), (gp pl j).2) := fun j hj => by
      rcases r2 j hj with b | ⟨k, _, k2, k3⟩
      · obtain ⟨k, hk⟩ := List.getElem?_of_mem (i3 j (by omega))
        exact absurd hk (b k (List.getElem?_eq_some_iff.mp hk).1)
      · exact ⟨k, k2, k3⟩
    refine ⟨hc, o2, o3, by omega, by rw [List.length_map]; omega, fun f hf => ?_, fun j k side hj => ?_, fun i j k s t hi hj => ?_⟩
    · obtain ⟨i, hi0, rfl⟩ := List.mem_map.mp hf
      have hi := i2 i hi0
      rw [gp_at (List.getElem?_eq_getElem hi)]
      exact g2 _ (List.getElem_mem hi)
    · have hjw : (j : Int) < width := by
        have := (List.getElem?_eq_some_iff.mp hj).1
        omega
      obtain ⟨k', q1, q2⟩ := there j hjw
      rw [hj] at q2
      cases q2
      have hjp : j < ps.length := by omega
      have pj : pl[j]? = some ps[j] := by rw [g3 j hjp, List.getElem?_eq_getElem hjp]
      obtain ⟨s, e, h1, h2, h3⟩ := p3 j ps[j] (List.getElem?_eq_getElem hjp)
      refine ⟨(gp pl j).1, s, e, by omega, ?_, h1, by rw [r1]; exact h2, ?_⟩
      · rw [List.getElem?_map, Int.toNat_natCast, q1]
        rfl
      · rw [gp_at pj]
        rcases h3 with ⟨a, b, c, d⟩ | ⟨a, b, c, d⟩
        · exact .inl ⟨a, b, c, d⟩
        · exact .inr ⟨a, b, c, d⟩
    · have hiw : (i : Int) < width := by
        have := (List.getElem?_eq_some_iff.mp hi).1
        omega
      have hjw : (j : Int) < width := by
        have := (List.getElem?_eq_some_iff.mp hj).1
        omega
      obtain ⟨k1, q1, q2⟩ := there i hiw
      obtain ⟨k2, q3, q4⟩ := there j hjw
      rw [hi] at q2
      rw [hj] at q4
      cases q2
      have : (k1 : Int) = (k2 : Int) := congrArg Prod.fst (Option.some.inj q4)
      have : k1 = k2 := by omega
      subst this
      rw [q1] at q3
      exact Option.some.inj q3
end Sx

set_option Elab.async false
set_option linter.all false
set_option maxRecDepth 100000
set_option maxHeartbeats 4000000
namespace Sx
open PySem L2
@[simp] theorem at1_0 {α : Type} {a : α} : atI [a] 0 = some a := rfl
@[simp] theorem at2_0 {α : Type} {a b : α} : atI [a, b] 0 = some a := rfl
@[simp] theorem at2_1 {α : Type} {a b : α} : atI [a, b] 1 = some b := rfl
@[simp] theorem at3_0 {α : Type} {a b c : α} : atI [a, b, c] 0 = some a := rfl
@[simp] theorem at3_1 {α : Type} {a b c : α} : atI [a, b, c] 1 = some b := rfl
@[simp] theorem at3_2 {α : Type} {a b c : α} : atI [a, b, c] 2 = some c := rfl
@[simp] theorem at4_0 {α : Type} {a b c d : α} : atI [a, b, c, d] 0 = some a := rfl
@[simp] theorem at4_1 {α : Type} {a b c d : α} : atI [a, b, c, d] 1 = some b := rfl
@[simp] theorem at4_2 {α : Type} {a b c d : α} : atI [a, b, c, d] 2 = some c := rfl
@[simp] theorem at4_3 {α : Type} {a b c d : α} : atI [a, b, c, d] 3 = some d := rfl
@[simp] theorem at5_0 {α : Type} {a b c d e : α} : atI [a, b, c, d, e] 0 = some a := rfl
@[simp] theorem at5_1 {α : Type} {a b c d e : α} : atI [a, b, c, d, e] 1 = some b := rfl
@[simp] theorem at5_2 {α : Type} {a b c d e : α} : atI [a, b, c, d, e] 2 = some c := rfl
@[simp] theorem at5_3 {α : Type} {a b c d e : α} : atI [a, b, c, d, e] 3 = some d := rfl
@[simp] theorem at5_4 {α : Type} {a b c d e : α} : atI [a, b, c, d, e] 4 = some e := rfl
def lstep (fs : List F) (s : Int × Str) : Option (Int × Int × Int) :=
  if s.1 < 0 then none else if (fs.length : Int) ≤ s.1 then none else
  match fs[s.1.toNat]? with
  | none => none
  | some f => if s.2 = "high" then f.hi.map fun h => (f.a, f.b, h) else if s.2 = "low" then f.lo.map fun l => (f.b, f.a, 0 - l) else none
def oT : Option (Int × Int × Int) → D
  | none => .non
  | some (a, b, c) => .tup [.int a, .int b, .int c]
theorem hilo : (("low" : Str) = "high") = False := by simp; decide
theorem law_step_ok (fs : List F) (s : Int × Str) : m__law_step [.lst (fs.map encF), encS s] = some (oT (lstep fs s)) := by
  obtain ⟨k, side⟩ := s
  unfold m__law_step callM b__law_step
  by_cases h1 : k < 0
  · simp [encS, h1, lstep, oT]
  · by_cases h2 : (fs.length : Int) ≤ k
    · simp [encS, h1, h2, lstep, oT]
    · obtain ⟨f, hf, hf2⟩ := atI_mapD (f := encF) (xs := fs) (i := k) (by omega) (by omega)
      by_cases h3 : side = "high"
      · subst h3
        cases hh : f.hi with
        | none =>
          simp [encS, h1, h2, lstep, oT, hf, hf2, encF, hh, oD, hilo, show (("high" : Str) = "low") = False by simp; decide]
        | some h =>
          simp [encS, h1, h2, lstep, oT, hf, hf2, encF, hh, oD]
      · by_cases h4 : side = "low"
        · subst h4
          cases hh : f.lo with
          | none =>
              simp [encS, h1, h2, lstep, oT, hf, hf2, encF, hh, oD, hilo]
          | some h =>
              simp [encS, h1, h2, lstep, oT, hf, hf2, encF, hh, oD, hilo]
        · simp [encS, h1, h2, h3, h4, lstep, oT, hf, hf2, encF]
theorem exists_ok (fs : List F) (s : Int × Str) : m_step_exists [.lst (fs.map encF), encS s] = some (.bl (lstep fs s).isSome) := by
  obtain ⟨k, side⟩ := s
  unfold m_step_exists callM b_step_exists
  by_cases h1 : k < 0
  · simp [encS, lstep, h1, show ¬ 0 ≤ k by omega]
  · by_cases h2 : (fs.length : Int) ≤ k
    · simp [encS, h1, h2, lstep, show 0 ≤ k by omega, show ¬ k < fs.length by omega]
    · obtain ⟨f, hf, hf2⟩ := atI_mapD (f := encF) (xs := fs) (i := k) (by omega) (by omega)
      obtain ⟨hlt, rfl⟩ := List.getElem?_eq_some_iff.mp hf2
      by_cases h3 : side = "high"
      · subst h3
        cases hh : fs[k.toNat].hi <;> simp [encS, h1, h2, lstep, hf, hf2, encF, hh, oD, hilo, show 0 ≤ k by omega, show k < fs.length by omega, show (("high" : Str) = "low") = False by simp; decide]
      · by_cases h4 : side = "low"
        · subst h4
          cases hh : fs[k.toNat].lo <;> simp [encS, h1, h2, lstep, hf, hf2, encF, hh, oD, hilo, show 0 ≤ k by omega, show k < fs.length by omega]
        · simp [encS, h1, h2, h3, h4, lstep, hf, hf2, encF, show 0 ≤ k by omega, show k < fs.length by omega]
theorem parts_ok (fs : List F) (s : Int × Str) {a b c : Int} (h : lstep fs s = some (a, b, c)) : m_step_parts [.lst (fs.map encF), encS s] = some (.tup [.int a, .int b, .int c]) := by
  obtain ⟨k, side⟩ := s
  unfold lstep at h
  by_cases h1 : k < 0
  · rw [if_pos h1] at h
    cases h
  · rw [if_neg h1] at h
    by_cases h2 : (fs.length : Int) ≤ k
    · rw [if_pos h2] at h
      cases h
    · rw [if_neg h2] at h
      obtain ⟨f, hf, hf2⟩ := atI_mapD (f := encF) (xs := fs) (i := k) (by omega) (by omega)
      simp only [hf2] at h
      unfold m_step_parts callM b_step_parts
      by_cases h3 : side = "high"
      · subst h3
        rw [if_pos rfl] at h
        cases hh : f.hi with
        | none =>
          rw [hh] at h
          cases h
        | some z =>
          rw [hh] at h
          cases h
          simp [encS, hf, encF, hh, oD]
      · rw [if_neg h3] at h
        by_cases h4 : side = "low"
        · subst h4
          rw [if_pos rfl] at h
          cases hh : f.lo with
          | none =>
            rw [hh] at h
            cases h
          | some z =>
            rw [hh] at h
            cases h
            simp [encS, hf, encF, hh, oD, hilo]
        · rw [if_neg h4] at h
          cases h
def pts (fs : List F) : Int → List (Int × Str) → Option (List Int)
  | _, [] => some []
  | cur, s :: ss => match lstep fs s with
    | none => none
    | some (b, e, _) => if b = cur then (pts fs e ss).map (e :: ·) else none
theorem pts_len {fs : List F} : ∀ {ss : List (Int × Str)} {cur : Int} {l : List Int}, pts fs cur ss = some l → l.length = ss.length
  | [], _, _, h => by cases h; rfl
  | s :: ss, cur, l, h => by
    unfold pts at h
    split at h
    · cases h
    · split at h
      · obtain ⟨l', h1, rfl⟩ := map_some h
        simp [pts_len h1]
      · cases h
theorem atI_neg1 {α : Type} {xs : List α} {x : α} : atI (xs ++ [x]) (-1) = some x := by
  unfold atI ixN
  rw [if_neg (by omega), if_pos (by rw [List.length_append, List.length_singleton]; omega)]
  show (xs ++ [x])[(-1 + ((xs ++ [x]).length : Int)).toNat]? = some x
  rw [List.length_append, List.length_singleton, List.getElem?_append_right (by omega)]
  rw [show (-1 + ((xs.length + 1 : Nat) : Int)).toNat - xs.length = 0 by omega]
  rfl
theorem points_loop (fs : List F) (d1 d2 : Sl) : ∀ (ss : List (Int × Str)) (acc : List Int) (cur : Int) (t4 t5 t6 t7 : Sl), acc.length + ss.length < 50000 →
    (pts fs cur ss = none → runFor (gM 4) (mSeq (mIfS (mNot (fun E => ((mCall 2 m_step_exists (mCons (mVar 0) (mCons (mVar 4) mNil))) E).bind truD)) (mRet (mC .non)) mNext)
      (mSeq (mAsg (gTupM 3 (gsCons (gM 5) (gsCons (gM 6) (gsCons (gM 7) gsNil)))) (mCall 2 m_step_parts (mCons (mVar 0) (mCons (mVar 4) mNil))))
      (mSeq (mIfS (fun E => ((mBin neD (mVarT 5) (mBin ixD (mVarT 3) (mUn negD (mC (.int 1))))) E).bind blOf) (mRet (mC .non)) mNext)
      (mApp 3 (mVar 6))))) (ss.map encS) [.fz (.lst (fs.map encF)), d1, d2, .ow ((acc ++ [cur]).map .int), t4, t5, t6, t7] = some (.rt .non)) ∧
    (∀ l, pts fs cur ss = some l → ∃ t4' t5' t6' t7', runFor (gM 4) (mSeq (mIfS (mNot (fun E => ((mCall 2 m_step_exists (mCons (mVar 0) (mCons (mVar 4) mNil))) E).bind truD)) (mRet (mC .non)) mNext)
      (mSeq (mAsg (gTupM 3 (gsCons (gM 5) (gsCons (gM 6) (gsCons (gM 7) gsNil)))) (mCall 2 m_step_parts (mCons (mVar 0) (mCons (mVar 4) mNil))))
      (mSeq (mIfS (fun E => ((mBin neD (mVarT 5) (mBin ixD (mVarT 3) (mUn negD (mC (.int 1))))) E).bind blOf) (mRet (mC .non)) mNext)
      (mApp 3 (mVar 6))))) (ss.map encS) [.fz (.lst (fs.map encF)), d1, d2, .ow ((acc ++ [cur]).map .int), t4, t5, t6, t7] = some (.nx [.fz (.lst (fs.map encF)), d1, d2, .ow ((acc ++ cur :: l).map .int), t4', t5', t6', t7'])) := by
  generalize hmb : mSeq (mIfS _ _ _) _ = mb
  intro ss
  induction ss with
  | nil =>
    intro acc cur t4 t5 t6 t7 _
    refine ⟨fun h => (by cases h), fun l h => ?_⟩
    cases h
    exact ⟨t4, t5, t6, t7, rfl⟩
  | cons s ss ih =>
    intro acc cur t4 t5 t6 t7 hl
    have hx := exists_ok fs s
    have last : atI (List.map D.int (acc ++ [cur])) (-1) = some (.int cur) := by
      rw [List.map_append]
      exact atI_neg1
    have run1 : ∀ E1, mb ([.fz (.lst (fs.map encF)), d1, d2, .ow ((acc ++ [cur]).map .int), .fz (encS s), t5, t6, t7]) = some (.nx E1) → runFor (gM 4) mb ((s :: ss).map encS) [.fz (.lst (fs.map encF)), d1, d2, .ow ((acc ++ [cur]).map .int), t4, t5, t6, t7] = runFor (gM 4) mb (ss.map encS) E1 := fun E1 h => by
      show (mb _).bind _ = _
      simp only [List.set]
      rw [h]
      rfl
    have run2 : ∀ r, mb ([.fz (.lst (fs.map encF)), d1, d2, .ow ((acc ++ [cur]).map .int), .fz (encS s), t5, t6, t7]) = some (.rt r) → runFor (gM 4) mb ((s :: ss).map encS) [.fz (.lst (fs.map encF)), d1, d2, .ow ((acc ++ [cur]).map .int), t4, t5, t6, t7] = some (.rt r) := fun r h => by
      show (mb _).bind _ = _
      simp only [List.set]
      rw [h]
      rfl
    cases hs : lstep fs s with
    | none =>
      rw [hs] at hx
      have e : pts fs cur (s :: ss) = none := by simp [pts, hs]
      refine ⟨fun _ => run2 _ ?_, fun l h => (by rw [e] at h; cases h)⟩
      subst hmb
      simp [hx]
    | some p =>
      obtain ⟨b, e, c⟩ := p
      rw [hs] at hx
      have hp := parts_ok fs s hs
      by_cases hb : b = cur
      · subst hb
        have step : mb ([.fz (.lst (fs.map encF)), d1, d2, .ow ((acc ++ [b]).map .int), .fz (encS s), t5, t6, t7]) = some (.nx [.fz (.lst (fs.map encF)), d1, d2, .ow (((acc ++ [b]) ++ [e]).map .int), .fz (encS s), .fz (.int b), .fz (.int e), .fz (.int c)]) := by
          subst hmb
          simp at last
          simp [hx, hp, last, show acc.length + 1 < 100000 by simp at hl; omega]
        have ih2 := ih (acc ++ [b]) e (.fz (encS s)) (.fz (.int b)) (.fz (.int e)) (.fz (.int c)) (by simp at hl ⊢; omega)
        refine ⟨fun h => ?_, fun l h => ?_⟩
        · rw [run1 _ step]
          refine ih2.1 ?_
          simp [pts, hs] at h
          exact h
        · simp [pts, hs] at h
          obtain ⟨l', h1, rfl⟩ := h
          obtain ⟨a4, a5, a6, a7, h2⟩ := ih2.2 l' h1
          refine ⟨a4, a5, a6, a7, ?_⟩
          rw [run1 _ step, h2]
          simp
      · have e : pts fs cur (s :: ss) = none := by simp [pts, hs, hb]
        refine ⟨fun _ => run2 _ ?_, fun l h => (by rw [e] at h; cases h)⟩
        subst hmb
        simp at last
        simp [hx, hp, last, hb]
theorem points_ok (fs : List F) (start : Int) (ss : List (Int × Str)) (h : ss.length < 40000) : m__points_on [.lst (fs.map encF), .int start, .lst (ss.map encS)] = some (match pts fs start ss with
  | none => .non
  | some l => .lst ((start :: l).map .int)) := by
  obtain ⟨h1, h2⟩ := points_loop fs (.fz (.int start)) (.fz (.lst (ss.map encS))) ss [] start .un .un .un .un (by simp; omega)
  unfold m__points_on callM b__points_on
  cases hp : pts fs start ss with
  | none =>
    have := h1 hp
    simp at this
    simp [this]
  | some l =>
    obtain ⟨a4, a5, a6, a7, h3⟩ := h2 l hp
    simp at h3
    simp [h3]
end Sx

set_option Elab.async false
set_option linter.all false
set_option maxRecDepth 100000
set_option maxHeartbeats 4000000
namespace Sx
open PySem L2 PyProof.Rows
def tot (fs : List F) (ss : List (Int × Str)) : Int := (ss.map fun s => match lstep fs s with
  | some (_, _, c) => c
  | none => 0).sum
theorem pts_all {fs : List F} : ∀ {ss : List (Int × Str)} {cur : Int} {l : List Int}, pts fs cur ss = some l → ∀ s ∈ ss, ∃ a b c, lstep fs s = some (a, b, c)
  | [], _, _, _ => fun s hs => by cases hs
  | s :: ss, cur, l, h => fun x hx => by
    unfold pts at h
    cases hs : lstep fs s with
    | none =>
      rw [hs] at h
      cases h
    | some p =>
      obtain ⟨b, e, c⟩ := p
      rw [hs] at h
      simp only at h
      by_cases hb : b = cur
      · rw [if_pos hb] at h
        obtain ⟨l', h1, _⟩ := map_some h
        rcases List.mem_cons.mp hx with q | q
        · subst q
          exact ⟨b, e, c, hs⟩
        · exact pts_all h1 x q
      · rw [if_neg hb] at h
        cases h
theorem cost_ok (fs : List F) (ss : List (Int × Str)) (h : ∀ s ∈ ss, ∃ a b c, lstep fs s = some (a, b, c)) (hl : ss.length ≤ 50000) : m_way_cost [.lst (fs.map encF), .lst (ss.map encS)] = some (.int (tot fs ss)) := by
  obtain ⟨cs, c1, c2⟩ := runComp_enc (mg := gM 2) (mt := mYes) (me := mBin ixD (mCall 2 m_step_parts (mCons (mVar 0) (mCons (mVar 2) mNil))) (mC (.int 2))) (E0 := [.fz (.lst (fs.map encF)), .fz (.lst (ss.map encS)), .un]) encS D.int (fun s c => c = match lstep fs s with
    | some (_, _, c) => c
    | none => 0) ss fun s hs => by
    obtain ⟨a, b, c, e⟩ := h s hs
    have := parts_ok fs s e
    exact ⟨_, c, rfl, rfl, by simp [this], by rw [e]⟩
  have := Paired.fn c2
  unfold m_way_cost callM b_way_cost
  simp [c1, show ss.length ≤ 100000 by omega, allInts_map]
  rw [this]
  rfl
def chainS (fs : List F) : List (Int × Str) → Option (List Int × Int)
  | [] => some ([], 0)
  | s :: ss => match lstep fs s with
    | none => none
    | some (b, _, _) => (pts fs b (s :: ss)).map fun l => (b :: l, tot fs (s :: ss))
def oC : Option (List Int × Int) → D
  | none => .non
  | some (ps, t) => .tup [.lst (ps.map .int), .int t]
theorem tot_cons {fs : List F} {s : Int × Str} {ss : List (Int × Str)} {a b c : Int} (h : lstep fs s = some (a, b, c)) : tot fs (s :: ss) = c + tot fs ss := by
  unfold tot
  rw [List.map_cons, List.sum_cons, h]
theorem atI_last' {α : Type} {xs : List α} {x : α} : atI (xs ++ [x]) ((xs.length : Int)) = some x := by
  unfold atI ixN
  rw [if_pos (by omega), if_pos (by rw [List.length_append, List.length_singleton]; omega)]
  show (xs ++ [x])[((xs.length : Int)).toNat]? = some x
  rw [Int.toNat_natCast, List.getElem?_append_right (by omega), Nat.sub_self]
  rfl
abbrev chB : En → Option Out := (mSeq (mSet 5 (mCall 2 m__law_step (mCons (mVar 0) (mCons (mVar 4) mNil))))
      (mSeq (mIfS (fun E => ((mVarT 5) E).map isN) (mRet (mC .non)) mNext)
      (mSeq (mIfS (fun E => ((mBin eqD (mUn lenD (mVarT 2)) (mC (.int 0))) E).bind blOf) (mApp 2 (mBin ixD (mVarT 5) (mC (.int 0)))) mNext)
      (mSeq (mIfS (fun E => ((mBin neD (mBin ixD (mVarT 2) (mBin (intOp fun i j => .int (i - j)) (mUn lenD (mVarT 2)) (mC (.int 1)))) (mBin ixD (mVarT 5) (mC (.int 0)))) E).bind blOf) (mRet (mC .non)) mNext)
      (mSeq (mApp 2 (mBin ixD (mVarT 5) (mC (.int 1))))
      (mSet 3 (mBin addD (mVarT 3) (mBin ixD (mVarT 5) (mC (.int 2))))))))))
theorem for_nx {mg : En → D → Option En} {mb : En → Option Out} {d : D} {ds : List D} {E E1 E2 : En} (h1 : mg E d = some E1) (h2 : mb E1 = some (.nx E2)) : runFor mg mb (d :: ds) E = runFor mg mb ds E2 := by
  show (mg E d).bind _ = _
  rw [h1]
  show (mb E1).bind _ = _
  rw [h2]
  rfl
theorem for_rt {mg : En → D → Option En} {mb : En → Option Out} {d r : D} {ds : List D} {E E1 : En} (h1 : mg E d = some E1) (h2 : mb E1 = some (.rt r)) : runFor mg mb (d :: ds) E = some (.rt r) := by
  show (mg E d).bind _ = _
  rw [h1]
  show (mb E1).bind _ = _
  rw [h2]
  rfl
theorem chain_loop (fs : List F) (d1 : Sl) : ∀ (ss : List (Int × Str)) (acc : List Int) (cur t : Int) (t4 t5 : Sl), acc.length + ss.length < 50000 →
    (pts fs cur ss = none → runFor (gM 4) chB (ss.map encS) [.fz (.lst (fs.map encF)), d1, .ow ((acc ++ [cur]).map .int), .fz (.int t), t4, t5] = some (.rt .non)) ∧
    (∀ l, pts fs cur ss = some l → ∃ t4' t5', runFor (gM 4) chB (ss.map encS) [.fz (.lst (fs.map encF)), d1, .ow ((acc ++ [cur]).map .int), .fz (.int t), t4, t5] = some (.nx [.fz (.lst (fs.map encF)), d1, .ow ((acc ++ cur :: l).map .int), .fz (.int (t + tot fs ss)), t4', t5'])) := by
  intro ss
  induction ss with
  | nil =>
    intro acc cur t t4 t5 _
    refine ⟨fun h => (by cases h), fun l h => ?_⟩
    cases h
    exact ⟨t4, t5, by simp [runFor, tot]⟩
  | cons s ss ih =>
    intro acc cur t t4 t5 hl
    have hx := law_step_ok fs s
    have last : atI (acc.map D.int ++ [D.int cur]) (acc.length : Int) = some (.int cur) := by
      have := atI_last' (xs := acc.map D.int) (x := D.int cur)
      rwa [List.length_map] at this
    have al : acc.length + 1 < 100000 := by simp at hl; omega
    cases hs : lstep fs s with
    | none =>
      rw [hs] at hx
      have e : pts fs cur (s :: ss) = none := by simp [pts, hs]
      refine ⟨fun _ => for_rt rfl ?_, fun l h => (by rw [e] at h; cases h)⟩
      simp [hx, oT]
    | some p =>
      obtain ⟨b, e, c⟩ := p
      rw [hs] at hx
      by_cases hb : b = cur
      · subst hb
        have step : chB ([.fz (.lst (fs.map encF)), d1, .ow ((acc ++ [b]).map .int), .fz (.int t), .fz (encS s), t5]) = some (.nx [.fz (.lst (fs.map encF)), d1, .ow (((acc ++ [b]) ++ [e]).map .int), .fz (.int (t + c)), .fz (encS s), .fz (.tup [.int b, .int e, .int c])]) := by
          simp [hx, oT, last, al, show ¬ ((acc.length : Int) + 1 = 0) by omega]
        have ih2 := ih (acc ++ [b]) e (t + c) (.fz (encS s)) (.fz (.tup [.int b, .int e, .int c])) (by simp at hl ⊢; omega)
        refine ⟨fun h => ?_, fun l h => ?_⟩
        · rw [List.map_cons, for_nx rfl step]
          refine ih2.1 ?_
          simp [pts, hs] at h
          exact h
        · simp [pts, hs] at h
          obtain ⟨l', h1, rfl⟩ := h
          obtain ⟨a4, a5, h2⟩ := ih2.2 l' h1
          refine ⟨a4, a5, ?_⟩
          rw [List.map_cons, for_nx rfl step, h2, tot_cons hs]
          simp [Int.add_assoc]
      · have e : pts fs cur (s :: ss) = none := by simp [pts, hs, hb]
        refine ⟨fun _ => for_rt rfl ?_, fun l h => (by rw [e] at h; cases h)⟩
        simp [hx, oT, last, al, show ¬ ((acc.length : Int) + 1 = 0) by omega, show ¬ cur = b from fun z => hb z.symm]
theorem chain_ok (fs : List F) (ss : List (Int × Str)) (h : ss.length < 40000) : m__law_chain [.lst (fs.map encF), .lst (ss.map encS)] = some (oC (chainS fs ss)) := by
  unfold m__law_chain callM b__law_chain
  cases ss with
  | nil => simp [chainS, oC, runFor]
  | cons s ss =>
    have hx := law_step_ok fs s
    cases hs : lstep fs s with
    | none =>
      rw [hs] at hx
      have : runFor (gM 4) chB ((s :: ss).map encS) [.fz (.lst (fs.map encF)), .fz (.lst ((s :: ss).map encS)), .ow [], .fz (.int 0), .un, .un] = some (.rt .non) := for_rt rfl (by simp [hx, oT])
      simp [chB] at this
      simp [chainS, hs, oC, this]
    | some p =>
      obtain ⟨b, e, c⟩ := p
      rw [hs] at hx
      have step : chB ([.fz (.lst (fs.map encF)), .fz (.lst ((s :: ss).map encS)), .ow [], .fz (.int 0), .fz (encS s), .un]) = some (.nx [.fz (.lst (fs.map encF)), .fz (.lst ((s :: ss).map encS)), .ow (([b] ++ [e]).map .int), .fz (.int (0 + c)), .fz (encS s), .fz (.tup [.int b, .int e, .int c])]) := by
        simp [hx, oT]
      obtain ⟨g1, g2⟩ := chain_loop fs (.fz (.lst ((s :: ss).map encS))) ss [b] e (0 + c) (.fz (encS s)) (.fz (.tup [.int b, .int e, .int c])) (by simp at h ⊢; omega)
      have run := for_nx (mg := gM 4) (mb := chB) (d := encS s) (ds := ss.map encS) (E := [.fz (.lst (fs.map encF)), .fz (.lst ((s :: ss).map encS)), .ow [], .fz (.int 0), .un, .un]) rfl step
      cases hp : pts fs e ss with
      | none =>
        rw [g1 hp] at run
        simp [chB] at run
        simp [chainS, pts, hs, hp, oC, run]
      | some l =>
        obtain ⟨a4, a5, g3⟩ := g2 l hp
        rw [g3] at run
        simp [chB] at run
        simp [chainS, pts, hs, hp, oC, run, tot_cons hs]
end Sx

set_option Elab.async false
set_option linter.all false
set_option maxRecDepth 100000
set_option maxHeartbeats 4000000
namespace Sx
open PySem L2 PyProof.Rows
/-! ### how many different ints -/
def card (ns : List Int) : Nat := (firstMet (fun i => ns.getD i 0) ns.length).length
theorem getD_range : ∀ (ns : List Int), (List.range ns.length).map (fun i => ns.getD i 0) = ns := fun ns => by
  refine List.ext_getElem? fun i => ?_
  rw [List.getElem?_map]
  by_cases h : i < ns.length
  · rw [List.getElem?_range h, List.getElem?_eq_getElem h]
    simp [h]
  · rw [List.getElem?_eq_none (by rw [List.length_range]; omega), List.getElem?_eq_none (by omega)]
    rfl
theorem card_fold (ns : List Int) : card ns = (ns.foldl step_dedup []).length := by
  unfold card firstMet
  rw [getD_range]
theorem step_in {acc : List Int} {x : Int} (h : x ∈ acc) : step_dedup acc x = acc := by
  unfold step_dedup
  refine if_pos ?_
  rw [List.any_eq_true]
  exact ⟨x, h, beq_self_eq_true x⟩
theorem fold_dedup : ∀ (ns acc : List Int), (∀ y, y ∈ ns.foldl step_dedup acc ↔ y ∈ acc ∨ y ∈ ns) ∧ (ns.foldl step_dedup acc).length ≤ acc.length + ns.length ∧
    ((ns.foldl step_dedup acc).length = acc.length + ns.length ↔ ns.Nodup ∧ ∀ y ∈ ns, y ∉ acc)
  | [], acc => ⟨fun y => by simp, by simp, by simp⟩
  | x :: ns, acc => by
    have e : (x :: ns).foldl step_dedup acc = ns.foldl step_dedup (step_dedup acc x) := rfl
    rw [e]
    by_cases hx : x ∈ acc
    · have s : step_dedup acc x = acc := step_in hx
      rw [s]
      obtain ⟨h1, h2, h3⟩ := fold_dedup ns acc
      refine ⟨fun y => ?_, by rw [List.length_cons]; omega, ?_⟩
      · rw [h1]
        constructor
        · rintro (h | h)
          · exact .inl h
          · exact .inr (List.mem_cons_of_mem _ h)
        · rintro (h | h)
          · exact .inl h
          · rcases List.mem_cons.mp h with h | h
            · exact .inl (h ▸ hx)
            · exact .inr h
      · constructor
        · intro h
          rw [List.length_cons] at h
          omega
        · intro h
          exact absurd hx (h.2 x (List.mem_cons_self ..))
    · have s : step_dedup acc x = acc ++ [x] := by
        unfold step_dedup
        rw [if_neg]
        intro h
        obtain ⟨y, h1, h2⟩ := List.any_eq_true.mp h
        rw [← eq_of_beq h2] at hx
        exact hx h1
      rw [s]
      obtain ⟨h1, h2, h3⟩ := fold_dedup ns (acc ++ [x])
      rw [List.length_append, List.length_singleton] at h2 h3
      refine ⟨fun y => ?_, by rw [List.length_cons]; omega, ?_⟩
      · rw [h1, List.mem_append, List.mem_singleton, List.mem_cons]
        constructor
        · rintro ((h | h) | h)
          · exact .inl h
          · exact .inr (.inl h)
          · exact .inr (.inr h)
        · rintro (h | h | h)
          · exact .inl (.inl h)
          · exact .inl (.inr h)
          · exact .inr h
      · rw [List.length_cons, show acc.length + (ns.length + 1) = acc.length + 1 + ns.length by omega, h3, List.nodup_cons]
        constructor
        · rintro ⟨n1, n2⟩
          refine ⟨⟨fun h => n2 x h (List.mem_append_right _ (List.mem_singleton.mpr rfl)), n1⟩, fun y hy => ?_⟩
          rcases List.mem_cons.mp hy with q | q
          · rw [q]; exact hx
          · exact fun z => n2 y q (List.mem_append_left _ z)
        · rintro ⟨⟨n1, n2⟩, n3⟩
          refine ⟨n2, fun y hy z => ?_⟩
          rcases List.mem_append.mp z with z | z
          · exact n3 y (List.mem_cons_of_mem _ hy) z
          · rw [List.mem_singleton.mp z] at hy
            exact n1 hy
theorem card_nodup (ns : List Int) : card ns = ns.length ↔ ns.Nodup := by
  rw [card_fold]
  have h := (fold_dedup ns []).2.2
  rw [List.length_nil, Nat.zero_add] at h
  rw [h]
  exact ⟨fun z => z.1, fun z => ⟨z, fun y _ => List.not_mem_nil⟩⟩
theorem card_ring (b : Int) (l : List Int) : card (b :: (l ++ [b])) = (l ++ [b]).length ↔ (l ++ [b]).Nodup := by
  have e : card (b :: (l ++ [b])) = card (b :: l) := by
    rw [card_fold, card_fold]
    have : (b :: (l ++ [b])).foldl step_dedup [] = step_dedup ((b :: l).foldl step_dedup []) b := by
      rw [← List.cons_append, List.foldl_append]
      rfl
    rw [this]
    have hb : b ∈ (b :: l).foldl step_dedup [] := ((fold_dedup (b :: l) []).1 b).mpr (.inr (List.mem_cons_self ..))
    rw [step_in hb]
  rw [e]
  have := card_nodup (b :: l)
  rw [List.length_cons] at this
  rw [List.length_append, List.length_singleton, this, List.nodup_cons]
  constructor
  · rintro ⟨h1, h2⟩
    refine List.nodup_append.mpr ⟨h2, List.nodup_cons.mpr ⟨List.not_mem_nil, List.nodup_nil⟩, fun x hx y hy => ?_⟩
    rw [List.mem_singleton.mp hy]
    intro z
    exact h1 (z ▸ hx)
  · intro h
    obtain ⟨h1, _, h3⟩ := List.nodup_append.mp h
    exact ⟨fun z => h3 b z b (List.mem_singleton.mpr rfl) rfl, h1⟩
/-! ### sorted, side by side -/
theorem nodup_sorted : ∀ {xs : List Int}, xs.Pairwise (· ≤ ·) → (∀ (i : Nat) (x y : Int), xs[i]? = some x → xs[i + 1]? = some y → x ≠ y) → xs.Nodup
  | [], _, _ => List.nodup_nil
  | [x], _, _ => List.nodup_cons.mpr ⟨List.not_mem_nil, List.nodup_nil⟩
  | x :: y :: r, h, g => by
    obtain ⟨h1, h2⟩ := List.pairwise_cons.mp h
    have ih := nodup_sorted h2 fun i a b ha hb => g (i + 1) a b ha hb
    refine List.nodup_cons.mpr ⟨fun hx => ?_, ih⟩
    have hne : x ≠ y := g 0 x y rfl rfl
    have hle := h1 y (List.mem_cons_self ..)
    rcases List.mem_cons.mp hx with q | q
    · exact hne q
    · have := (List.pairwise_cons.mp h2).1 x q
      omega
theorem nodup_adj {xs : List Int} (h : xs.Nodup) {i : Nat} {x y : Int} (hx : xs[i]? = some x) (hy : xs[i + 1]? = some y) : x ≠ y := by
  obtain ⟨i1, rfl⟩ := List.getElem?_eq_some_iff.mp hx
  obtain ⟨i2, rfl⟩ := List.getElem?_eq_some_iff.mp hy
  exact List.pairwise_iff_getElem.mp h i (i + 1) i1 i2 (by omega)
theorem unlike_ok (ps : List Int) (h : ps.length ≤ 50000) : m__law_unlike [.lst (ps.map .int)] = some (.bl (decide ps.Nodup)) := by
  have pe : (sortI ps).Nodup ↔ ps.Nodup := (sortI_perm ps).nodup_iff
  have le : (sortI ps).length = ps.length := (sortI_perm ps).length_eq
  have sl := sortI_le ps
  unfold m__law_unlike callM b__law_unlike
  generalize hso : sortI ps = so at pe le sl
  simp [allInts_map, hso, show (so.length : Int) ≤ 100000 by omega, show -100000 ≤ (so.length : Int) by omega]
  generalize hmb : mIfS _ _ _ = mb
  rcases runFor_find (mg := gM 2) (mb := mb) (fun j E => (∃ t, E = [.fz (.lst (ps.map .int)), .fz (.lst (so.map .int)), t]) ∧ ∀ (i : Nat) (x y : Int), i < j → so[i]? = some x → so[i + 1]? = some y → x ≠ y)
      (fun j r => r = .bl false ∧ ∃ x, so[j]? = some x ∧ so[j + 1]? = some x) (rangeD 1 (so.length - 1)) 0 [.fz (.lst (ps.map .int)), .fz (.lst (so.map .int)), .un] ⟨⟨.un, rfl⟩, fun i x y hi => by omega⟩ fun j d E hj hI => by
    obtain ⟨⟨t, rfl⟩, hI⟩ := hI
    obtain ⟨rfl, hjl⟩ := range_at hj
    rw [Nat.zero_add] at hI ⊢
    obtain ⟨x, hx, hx2⟩ := atI_mapD (f := D.int) (xs := so) (i := (j : Int)) (by omega) (by omega)
    obtain ⟨y, hy, hy2⟩ := atI_mapD (f := D.int) (xs := so) (i := 1 + (j : Int)) (by omega) (by omega)
    have hx3 : so[j]? = some x := by simpa using hx2
    have hy3 : so[j + 1]? = some y := by rw [show (1 + (j : Int)).toNat = j + 1 by omega] at hy2; exact hy2
    have ej : 1 + (j : Int) - 1 = j := by omega
    refine ⟨_, rfl, ?_⟩
    by_cases hxy : x = y
    · refine .inr ⟨.bl false, ?_, rfl, x, hx3, by rw [hy3, hxy]⟩
      subst hmb
      simp [hx, hy, ej, hxy]
    · refine .inl ⟨_, .inl ?_, ⟨⟨.fz (.int (1 + j)), rfl⟩, fun i a b hi ha hb => ?_⟩⟩
      · subst hmb
        simp [hx, hy, ej, hxy]
      · by_cases q : i = j
        · subst q
          rw [hx3] at ha
          rw [hy3] at hb
          cases ha
          cases hb
          exact hxy
        · exact hI i a b (by omega) ha hb with ⟨E', h1, _, h2⟩ | ⟨j, r, h1, h2, rfl, x, h3, h4⟩
  · rw [rangeD_len, Nat.zero_add] at h2
    have nd : so.Nodup := nodup_sorted sl fun i x y hx hy => h2 i x y (by
      have := (List.getElem?_eq_some_iff.mp hy).1
      omega) hx hy
    simp [h1, pe.mp nd]
  · rw [Nat.zero_add] at h3 h4
    have nd : ¬ ps.Nodup := fun z => nodup_adj (pe.mpr z) h3 h4 rfl
    simp [h1, nd]
end Sx

set_option Elab.async false
set_option linter.all false
set_option maxRecDepth 100000
set_option maxHeartbeats 4000000
namespace Sx
open PySem L2 PyProof.Rows
theorem lenSet_ok (ns : List Int) (h : ns.length < 4000) : lenSetD (.lst (ns.map .int)) = some (.int (card ns)) := by
  show ((allInts (ns.map .int)).bind fun ns => if ns.length < 4000 then some (D.int (firstMet (fun i => ns.getD i 0) ns.length).length) else none) = _
  rw [allInts_map]
  show (if ns.length < 4000 then _ else _) = _
  rw [if_pos h]
  rfl
theorem snoc_of (a : Int) (l : List Int) : ∃ i z, a :: l = i ++ [z] := ⟨(a :: l).dropLast, (a :: l).getLast (List.cons_ne_nil a l), (List.dropLast_concat_getLast _).symm⟩
def wayS (fs : List F) (a b : Int) (ss : List (Int × Str)) : Bool := match pts fs a ss with
  | none => false
  | some l => decide ((a :: l).getLast? = some b) && decide (a :: l).Nodup
theorem is_way_ok (fs : List F) (a b : Int) (ss : List (Int × Str)) (h : ss.length < 3000) : m_is_way [.lst (fs.map encF), .int a, .int b, .lst (ss.map encS)] = some (.bl (wayS fs a b ss)) := by
  have hp := points_ok fs a ss (by omega)
  unfold m_is_way callM b_is_way
  cases hl : pts fs a ss with
  | none =>
    rw [hl] at hp
    simp [hp, wayS, hl]
  | some l =>
    rw [hl] at hp
    replace hp : m__points_on [.lst (fs.map encF), .int a, .lst (ss.map encS)] = some (.lst ((a :: l).map .int)) := hp
    have ll := pts_len hl
    obtain ⟨i, z, e⟩ := snoc_of a l
    have hz := lenSet_ok (a :: l) (by simp; omega)
    have hn := card_nodup (a :: l)
    have last : atI ((a :: l).map D.int) (-1) = some (.int z) := by
      rw [e, List.map_append]
      exact atI_neg1
    have gl : (a :: l).getLast? = some z := by rw [e]; simp
    have ws : wayS fs a b ss = (decide (z = b) && decide (a :: l).Nodup) := by
      unfold wayS
      rw [hl]
      simp only [gl]
      simp
    rw [ws]
    generalize a :: l = pl at hp hz hn last ⊢
    by_cases h1 : z = b
    · by_cases h2 : pl.Nodup
      · simp [-lenSetD, hp, last, h1, hz, hn.mpr h2, h2]
      · have h3 : ¬ card pl = pl.length := fun q => h2 (hn.mp q)
        simp [-lenSetD, hp, last, h1, hz, h2, h3]
        omega
    · simp [-lenSetD, hp, last, h1]
theorem way_due_ok (fs : List F) (a b : Int) (ss : List (Int × Str)) (h : ss.length < 3000) : m__law_way_due [.lst (fs.map encF), .int a, .int b, .lst (ss.map encS)] = some (.bl (wayS fs a b ss)) := by
  have hc := chain_ok fs ss (by omega)
  unfold m__law_way_due callM b__law_way_due
  cases ss with
  | nil =>
    by_cases h1 : a = b <;> simp [wayS, pts, h1]
  | cons s ss =>
    have nz : ¬ ((ss.length : Int) + 1 = 0) := by omega
    cases hs : lstep fs s with
    | none =>
      simp [chainS, hs, oC] at hc
      simp [hc, wayS, pts, hs, nz]
    | some p =>
      obtain ⟨b0, e0, c0⟩ := p
      cases hl : pts fs b0 (s :: ss) with
      | none =>
        simp [chainS, hs, hl, oC] at hc
        have : pts fs a (s :: ss) = none := by
          by_cases q : b0 = a
          · rw [← q]; exact hl
          · simp [pts, hs, q]
        simp [hc, wayS, this, nz]
      | some l =>
        have ll := pts_len hl
        have hu := unlike_ok (b0 :: l) (by simp at ll h ⊢; omega)
        obtain ⟨i, z, e⟩ := snoc_of b0 l
        have last : atI ((b0 :: l).map D.int) (((b0 :: l).length : Int) - 1) = some (.int z) := by
          rw [e, List.map_append, List.length_append, List.length_singleton]
          have := atI_last' (xs := i.map D.int) (x := D.int z)
          rw [List.length_map] at this
          rw [show ((i.length + 1 : Nat) : Int) - 1 = i.length by omega]
          exact this
        have first : atI ((b0 :: l).map D.int) 0 = some (.int b0) := atI_nat (j := 0) rfl
        have hc2 : m__law_chain [.lst (fs.map encF), .lst ((s :: ss).map encS)] = some (.tup [.lst ((b0 :: l).map .int), .int (tot fs (s :: ss))]) := by
          rw [hc]
          simp only [chainS, hs, hl]
          rfl
        have gl : (b0 :: l).getLast? = some z := by rw [e]; simp
        have ws : wayS fs a b (s :: ss) = (decide (b0 = a) && (decide (z = b) && decide (b0 :: l).Nodup)) := by
          unfold wayS
          by_cases q : b0 = a
          · subst q
            rw [hl]
            simp only [gl]
            simp
          · have : pts fs a (s :: ss) = none := by simp [pts, hs, q]
            simp [this, q]
        rw [ws]
        have sl : List.map encS (s :: ss) ≠ [] := by simp
        generalize (s :: ss).map encS = SS at hc2 sl ⊢
        generalize b0 :: l = pl at hc2 hu last first ⊢
        by_cases h1 : b0 = a
        · by_cases h2 : z = b <;> simp [hc2, sl, first, last, hu, h1, h2]
        · simp [hc2, sl, first, last, hu, h1]
def lowS (fs : List F) : List (Int × Str) → Bool
  | [] => false
  | s :: ss => match lstep fs s with
    | none => false
    | some (b, _, _) => match pts fs b (s :: ss) with
      | none => false
      | some l => decide ((b :: l).getLast? = some b) && (decide l.Nodup && decide (tot fs (s :: ss) < 0))
theorem low_facts (b z : Int) (i l : List Int) (e : b :: l = i ++ [z]) (hl : l ≠ []) : (z = b → (card (b :: l) = l.length ↔ l.Nodup)) := fun h => by
  subst h
  obtain ⟨j, rfl⟩ : ∃ j, l = j ++ [z] := by
    cases i with
    | nil =>
      simp at e
      exact absurd e hl
    | cons x j =>
      rw [List.cons_append] at e
      exact ⟨j, (List.cons.inj e).2⟩
  exact card_ring z j
theorem is_low_ok (fs : List F) (ss : List (Int × Str)) (h : ss.length < 3000) : m_is_low_ring [.lst (fs.map encF), .lst (ss.map encS)] = some (.bl (lowS fs ss)) := by
  unfold m_is_low_ring callM b_is_low_ring
  cases ss with
  | nil => simp [lowS]
  | cons s ss =>
    have hx := exists_ok fs s
    have first : atI ((s :: ss).map encS) 0 = some (encS s) := atI_nat (j := 0) rfl
    have nz : ((s :: ss).map encS).isEmpty = false := rfl
    cases hs : lstep fs s with
    | none =>
      rw [hs] at hx
      simp only [lowS, hs]
      generalize (s :: ss).map encS = SS at first nz ⊢
      simp [first, nz, hx]
    | some p =>
      obtain ⟨b, e0, c⟩ := p
      rw [hs] at hx
      have hpt := parts_ok fs s hs
      have hp := points_ok fs b (s :: ss) (by omega)
      cases hl : pts fs b (s :: ss) with
      | none =>
        rw [hl] at hp
        simp only [lowS, hs, hl]
        generalize (s :: ss).map encS = SS at first nz hp ⊢
        simp [first, nz, hx, hpt, hp]
      | some l =>
        rw [hl] at hp
        replace hp : m__points_on [.lst (fs.map encF), .int b, .lst ((s :: ss).map encS)] = some (.lst ((b :: l).map .int)) := hp
        have ll := pts_len hl
        obtain ⟨i, z, e⟩ := snoc_of b l
        have hz := lenSet_ok (b :: l) (by simp at ll h ⊢; omega)
        have last : atI ((b :: l).map D.int) (-1) = some (.int z) := by
          rw [e, List.map_append]
          exact atI_neg1
        have gl : (b :: l).getLast? = some z := by rw [e]; simp
        have hc := cost_ok fs (s :: ss) (pts_all hl) (by omega)
        have hlow := low_facts b z i l e (by intro q; rw [q] at ll; cases ll)
        have ws : lowS fs (s :: ss) = (decide (z = b) && (decide l.Nodup && decide (tot fs (s :: ss) < 0))) := by
          simp only [lowS, hs, hl, gl]
          simp
        have le : (((s :: ss).map encS).length : Int) = l.length := by
          rw [List.length_map, ll]
        rw [ws]
        generalize (s :: ss).map encS = SS at first nz hp hc le ⊢
        generalize b :: l = pl at hp hz last hlow ⊢
        by_cases h1 : z = b
        · by_cases h2 : l.Nodup
          · simp [-lenSetD, first, nz, hx, hpt, hp, last, hz, hc, le, h1, h2, (hlow h1).mpr h2]
          · have h3 : ¬ card pl = l.length := fun q => h2 ((hlow h1).mp q)
            have h4 : ¬ (card pl : Int) = l.length := fun q => h3 (by omega)
            simp [-lenSetD, first, nz, hx, hpt, hp, last, hz, hc, le, h1, h2, h4]
        · simp [-lenSetD, first, nz, hx, hpt, hp, last, hz, hc, h1]
theorem low_due_ok (fs : List F) (ss : List (Int × Str)) (h : ss.length < 3000) : m__law_low_due [.lst (fs.map encF), .lst (ss.map encS)] = some (.bl (lowS fs ss)) := by
  have hc := chain_ok fs ss (by omega)
  unfold m__law_low_due callM b__law_low_due
  cases ss with
  | nil => simp [lowS, chainS, oC] at hc ⊢; simp [hc]
  | cons s ss =>
    have sl : List.map encS (s :: ss) ≠ [] := by simp
    cases hs : lstep fs s with
    | none =>
      simp only [chainS, hs, oC] at hc
      simp only [lowS, hs]
      generalize (s :: ss).map encS = SS at hc sl ⊢
      simp [hc, sl]
    | some p =>
      obtain ⟨b, e0, c⟩ := p
      cases hl : pts fs b (s :: ss) with
      | none =>
        simp only [chainS, hs, hl] at hc
        replace hc : m__law_chain [.lst (fs.map encF), .lst ((s :: ss).map encS)] = some .non := hc
        simp only [lowS, hs, hl]
        generalize (s :: ss).map encS = SS at hc sl ⊢
        simp [hc, sl]
      | some l =>
        simp only [chainS, hs, hl] at hc
        replace hc : m__law_chain [.lst (fs.map encF), .lst ((s :: ss).map encS)] = some (.tup [.lst ((b :: l).map .int), .int (tot fs (s :: ss))]) := hc
        have ll := pts_len hl
        obtain ⟨i, z, e⟩ := snoc_of b l
        have last : atI ((b :: l).map D.int) (((b :: l).length : Int) - 1) = some (.int z) := by
          rw [e, List.map_append, List.length_append, List.length_singleton]
          have := atI_last' (xs := i.map D.int) (x := D.int z)
          rw [List.length_map] at this
          rw [show ((i.length + 1 : Nat) : Int) - 1 = i.length by omega]
          exact this
        have first : atI ((b :: l).map D.int) 0 = some (.int b) := atI_nat (j := 0) rfl
        have gl : (b :: l).getLast? = some z := by rw [e]; simp
        have hu := unlike_ok l (by simp at ll h; omega)
        have cut : cutD ((b :: l).map D.int) (some 1) none = l.map D.int := by
          rw [cutD_map]
          congr 1
          unfold cutG
          rw [sIx_pos (by omega)]
          show ((b :: l).drop (min 1 (l.length + 1))).take (l.length + 1 - min 1 (l.length + 1)) = l
          rw [show min 1 (l.length + 1) = 1 by omega]
          show l.take (l.length + 1 - 1) = l
          rw [Nat.add_sub_cancel, List.take_length]
        have ws : lowS fs (s :: ss) = (decide (z = b) && (decide l.Nodup && decide (tot fs (s :: ss) < 0))) := by
          simp only [lowS, hs, hl, gl]
          simp
        rw [ws]
        generalize (s :: ss).map encS = SS at hc sl ⊢
        generalize b :: l = pl at hc last first cut ⊢
        by_cases h1 : b = z
        · by_cases h2 : l.Nodup <;> simp [hc, sl, first, last, cut, hu, h1, h2]
        · simp [hc, sl, first, last, h1, show ¬ z = b from fun q => h1 q.symm]
end Sx

set_option Elab.async false
set_option linter.all false
set_option maxRecDepth 100000
set_option maxHeartbeats 4000000
namespace Sx
open PySem L2 PyProof.Rows
theorem same_ok (a b : Bool) : m__law_same [.bl a, .bl b] = some (.bl (decide (a = b))) := by
  unfold m__law_same callM b__law_same
  simp [kit_bb]
theorem num_ok (a : Int) : m__law_is_number [.int a] = some (.bl true) := by
  unfold m__law_is_number callM b__law_is_number
  simp [kit_ii, kit_ib]
theorem okF (f : F) : okD (encF f) = true := by
  obtain ⟨a, b, lo, hi⟩ := f
  cases lo <;> cases hi <;> simp [encF, oD, okD, okDs]
theorem depF (f : F) : depD (encF f) ≤ 60 := by
  obtain ⟨a, b, lo, hi⟩ := f
  cases lo <;> cases hi <;> simp [encF, oD, depD, depDs]
theorem depS (s : Int × Str) : depD (encS s) ≤ 60 := by simp [encS, depD, depDs]
theorem eqF (fs : List F) : eqB (.lst (fs.map encF)) (.lst (fs.map encF)) = some true := eqB_map (fun f _ => okF f) (fun f _ => depF f)
def SOk (ss : List (Int × Str)) : Prop := ∀ s ∈ ss, PyData.strOk s.2 = true
theorem eqS {ss : List (Int × Str)} (h : SOk ss) : eqB (.lst (ss.map encS)) (.lst (ss.map encS)) = some true := eqB_map (fun s hs => by simp [encS, okD, okDs, h s hs]) (fun s _ => depS s)
theorem eqI (ns : List Int) : eqB (.lst (ns.map .int)) (.lst (ns.map .int)) = some true := eqB_map (fun _ _ => by simp [okD]) (fun _ _ => by simp [depD])
/-- a loop all of whose turns go on from one environment to itself -/
theorem for_all {mg : En → D → Option En} {mb : En → Option Out} (I : En → Prop) (ds : List D) (E : En) (h : I E) (hs : ∀ d ∈ ds, ∀ E, I E → ∃ E1 E2, mg E d = some E1 ∧ mb E1 = some (.nx E2) ∧ I E2) : ∃ E', runFor mg mb ds E = some (.nx E') ∧ I E' := by
  obtain ⟨E', h1, h2⟩ := runFor_inv (mg := mg) (mb := mb) (fun _ E => I E) ds 0 E h fun j d E hj hI => by
    obtain ⟨E1, E2, a, b, c⟩ := hs d (List.mem_of_getElem? hj) E hI
    exact ⟨E1, E2, a, .inl b, c⟩
  exact ⟨E', h1, h2⟩
theorem judged_ok (fs : List F) (a b : Int) (ss : List (Int × Str)) (hs : SOk ss) (h : ss.length < 3000) : m__law_steps_judged [.lst (fs.map encF), .int a, .int b, .lst (ss.map encS)] = some (.bl true) := by
  -- all steps: do they exist, what do they cost
  obtain ⟨E1, f1, ⟨t7, t11, ex, rfl, hex, hto⟩⟩ : ∃ E1, runFor (gM 7) (mSeq (mSet 11 (mCall 2 m__law_step (mCons (mVar 0) (mCons (mVar 7) mNil))))
      (mIfS (fun E => ((mVarT 11) E).map isN) (mSet 6 (mC (.bl false))) (mSet 5 (mBin addD (mVarT 5) (mBin ixD (mVarT 11) (mC (.int 2))))))) (ss.map encS)
      [.fz (.lst (fs.map encF)), .fz (.int a), .fz (.int b), .fz (.lst (ss.map encS)), .ow [.tup [.int a, .int b], .tup [.int b, .int a], .tup [.int a, .int a], .tup [.int b, .int b]], .fz (.int 0), .fz (.bl true), .un, .un, .un, .un, .un, .un] = some (.nx E1) ∧
      ∃ (t7 t11 : Sl) (ex : Bool), E1 = [.fz (.lst (fs.map encF)), .fz (.int a), .fz (.int b), .fz (.lst (ss.map encS)), .ow [.tup [.int a, .int b], .tup [.int b, .int a], .tup [.int a, .int a], .tup [.int b, .int b]], .fz (.int (tot fs ss)), .fz (.bl ex), t7, .un, .un, .un, t11, .un] ∧
      (ex = true ↔ ∀ s ∈ ss, ∃ a b c, lstep fs s = some (a, b, c)) ∧ True := by
    have gen : ∀ (ss : List (Int × Str)) (t : Int) (ex : Bool) (t7 t11 : Sl) (d3 d4 : Sl), ∃ t7' t11' ex', runFor (gM 7) (mSeq (mSet 11 (mCall 2 m__law_step (mCons (mVar 0) (mCons (mVar 7) mNil))))
      (mIfS (fun E => ((mVarT 11) E).map isN) (mSet 6 (mC (.bl false))) (mSet 5 (mBin addD (mVarT 5) (mBin ixD (mVarT 11) (mC (.int 2))))))) (ss.map encS)
      [.fz (.lst (fs.map encF)), .fz (.int a), .fz (.int b), d3, d4, .fz (.int t), .fz (.bl ex), t7, .un, .un, .un, t11, .un] = some (.nx [.fz (.lst (fs.map encF)), .fz (.int a), .fz (.int b), d3, d4, .fz (.int (t + tot fs ss)), .fz (.bl ex'), t7', .un, .un, .un, t11', .un]) ∧
      (ex' = true ↔ ex = true ∧ ∀ s ∈ ss, ∃ a b c, lstep fs s = some (a, b, c)) := by
      intro ss
      induction ss with
      | nil =>
        intro t ex t7 t11 d3 d4
        exact ⟨t7, t11, ex, by simp [runFor, tot], by simp⟩
      | cons s ss ih =>
        intro t ex t7 t11 d3 d4
        have hx := law_step_ok fs s
        cases hl : lstep fs s with
        | none =>
          rw [hl] at hx
          obtain ⟨u7, u11, ex', g1, g2⟩ := ih t false (.fz (encS s)) (.fz .non) d3 d4
          refine ⟨u7, u11, ex', ?_, ?_⟩
          · rw [List.map_cons, for_nx (E1 := [.fz (.lst (fs.map encF)), .fz (.int a), .fz (.int b), d3, d4, .fz (.int t), .fz (.bl ex), .fz (encS s), .un, .un, .un, t11, .un]) (E2 := [.fz (.lst (fs.map encF)), .fz (.int a), .fz (.int b), d3, d4, .fz (.int t), .fz (.bl false), .fz (encS s), .un, .un, .un, .fz .non, .un]) rfl (by simp [hx, oT]), g1]
            have : tot fs (s :: ss) = tot fs ss := by
              unfold tot
              rw [List.map_cons, List.sum_cons, hl]
              simp
            rw [this]
          · rw [g2]
            constructor
            · rintro ⟨h, _⟩
              cases h
            · rintro ⟨_, h⟩
              obtain ⟨x, y, z, e⟩ := h s (List.mem_cons_self ..)
              rw [hl] at e
              cases e
        | some p =>
          obtain ⟨x, y, c⟩ := p
          rw [hl] at hx
          obtain ⟨u7, u11, ex', g1, g2⟩ := ih (t + c) ex (.fz (encS s)) (.fz (.tup [.int x, .int y, .int c])) d3 d4
          refine ⟨u7, u11, ex', ?_, ?_⟩
          · rw [List.map_cons, for_nx (E1 := [.fz (.lst (fs.map encF)), .fz (.int a), .fz (.int b), d3, d4, .fz (.int t), .fz (.bl ex), .fz (encS s), .un, .un, .un, t11, .un]) (E2 := [.fz (.lst (fs.map encF)), .fz (.int a), .fz (.int b), d3, d4, .fz (.int (t + c)), .fz (.bl ex), .fz (encS s), .un, .un, .un, .fz (.tup [.int x, .int y, .int c]), .un]) rfl (by simp [hx, oT]), g1, tot_cons hl, Int.add_assoc]
          · rw [g2]
            constructor
            · rintro ⟨h1, h2⟩
              refine ⟨h1, fun z hz => ?_⟩
              rcases List.mem_cons.mp hz with q | q
              · rw [q]
                exact ⟨x, y, c, hl⟩
              · exact h2 z q
            · rintro ⟨h1, h2⟩
              exact ⟨h1, fun z hz => h2 z (List.mem_cons_of_mem _ hz)⟩
    obtain ⟨t7, t11, ex, g1, g2⟩ := gen ss 0 true .un .un (.fz (.lst (ss.map encS))) (.ow [.tup [.int a, .int b], .tup [.int b, .int a], .tup [.int a, .int a], .tup [.int b, .int b]])
    rw [Int.zero_add] at g1
    exact ⟨_, g1, t7, t11, ex, rfl, by rw [g2]; simp, trivial⟩
  have main : ∀ (Ps : List (Int × Int)) (a7 a11 : Sl), run ((mSeq (mSet 8 (mList (fun E => ((mVarT 0) E).bind seqOf)))
      (mSeq (mSet 9 (mList (fun E => ((mVarT 3) E).bind seqOf)))
      (mSeq (mFrz 4 (mFor (fun E => ((mVar 4) E).bind lstOf) (gM 10) (mIfS (mNot (fun E => ((mCall 2 m__law_same (mCons (mCall 4 m_is_way (mCons (mVar 8) (mCons (mBin ixD (mVarT 10) (mC (.int 0))) (mCons (mBin ixD (mVarT 10) (mC (.int 1))) (mCons (mVar 9) mNil))))) (mCons (mCall 4 m__law_way_due (mCons (mVar 0) (mCons (mBin ixD (mVarT 10) (mC (.int 0))) (mCons (mBin ixD (mVarT 10) (mC (.int 1))) (mCons (mVar 3) mNil))))) mNil))) E).bind truD)) (mRet (mC (.bl false))) mNext)))
      (mSeq (mIfS (mNot (fun E => ((mCall 2 m__law_same (mCons (mCall 2 m_is_low_ring (mCons (mVar 8) (mCons (mVar 9) mNil))) (mCons (mCall 2 m__law_low_due (mCons (mVar 0) (mCons (mVar 3) mNil))) mNil))) E).bind truD)) (mRet (mC (.bl false))) mNext)
      (mSeq (mIfS (fun E => ((mVarT 6) E).bind truD) (mSeq (mSet 12 (mCall 2 m_way_cost (mCons (mVar 8) (mCons (mVar 9) mNil))))
      (mIfS (mOr (mNot (fun E => ((mCall 1 m__law_is_number (mCons (mVar 12) mNil)) E).bind truD)) (fun E => ((mBin neD (mVarT 12) (mVarT 5)) E).bind blOf)) (mRet (mC (.bl false))) mNext)) mNext)
      (mRet (mAndV (mBin eqD (mVarT 8) (mVarT 0)) (mBin eqD (mVarT 9) (mVarT 3))))))))) [.fz (.lst (fs.map encF)), .fz (.int a), .fz (.int b), .fz (.lst (ss.map encS)), .ow (Ps.map fun p => .tup [.int p.1, .int p.2]), .fz (.int (tot fs ss)), .fz (.bl ex), a7, .un, .un, .un, a11, .un]) = some (.bl true) := by
    intro Ps a7 a11
    refine mat_nx [.fz (.lst (fs.map encF)), .fz (.int a), .fz (.int b), .fz (.lst (ss.map encS)), .ow (Ps.map fun p => .tup [.int p.1, .int p.2]), .fz (.int (tot fs ss)), .fz (.bl ex), a7, .fz (.lst (fs.map encF)), .un, .un, a11, .un] (by simp) ?_
    refine mat_nx [.fz (.lst (fs.map encF)), .fz (.int a), .fz (.int b), .fz (.lst (ss.map encS)), .ow (Ps.map fun p => .tup [.int p.1, .int p.2]), .fz (.int (tot fs ss)), .fz (.bl ex), a7, .fz (.lst (fs.map encF)), .fz (.lst (ss.map encS)), .un, a11, .un] (by simp) ?_
    obtain ⟨E2, f2, t10, rfl⟩ := for_all (mg := gM 10) (mb := mIfS (mNot (fun E => ((mCall 2 m__law_same (mCons (mCall 4 m_is_way (mCons (mVar 8) (mCons (mBin ixD (mVarT 10) (mC (.int 0))) (mCons (mBin ixD (mVarT 10) (mC (.int 1))) (mCons (mVar 9) mNil))))) (mCons (mCall 4 m__law_way_due (mCons (mVar 0) (mCons (mBin ixD (mVarT 10) (mC (.int 0))) (mCons (mBin ixD (mVarT 10) (mC (.int 1))) (mCons (mVar 3) mNil))))) mNil))) E).bind truD)) (mRet (mC (.bl false))) mNext)
      (fun E => ∃ t10, E = [.fz (.lst (fs.map encF)), .fz (.int a), .fz (.int b), .fz (.lst (ss.map encS)), .fz (.lst (Ps.map fun p => .tup [.int p.1, .int p.2])), .fz (.int (tot fs ss)), .fz (.bl ex), a7, .fz (.lst (fs.map encF)), .fz (.lst (ss.map encS)), t10, a11, .un]) (Ps.map fun p => .tup [.int p.1, .int p.2])
      [.fz (.lst (fs.map encF)), .fz (.int a), .fz (.int b), .fz (.lst (ss.map encS)), .fz (.lst (Ps.map fun p => .tup [.int p.1, .int p.2])), .fz (.int (tot fs ss)), .fz (.bl ex), a7, .fz (.lst (fs.map encF)), .fz (.lst (ss.map encS)), .un, a11, .un] ⟨.un, rfl⟩ fun d hd E hI => by
        obtain ⟨t10, rfl⟩ := hI
        obtain ⟨p, _, rfl⟩ := List.mem_map.mp hd
        have h1 := is_way_ok fs p.1 p.2 ss h
        have h2 := way_due_ok fs p.1 p.2 ss h
        have h3 := same_ok (wayS fs p.1 p.2 ss) (wayS fs p.1 p.2 ss)
        refine ⟨_, _, rfl, ?_, ⟨.fz (.tup [.int p.1, .int p.2]), rfl⟩⟩
        simp [h1, h2, h3]
    refine mat_nx [.fz (.lst (fs.map encF)), .fz (.int a), .fz (.int b), .fz (.lst (ss.map encS)), .fz (.lst (Ps.map fun p => .tup [.int p.1, .int p.2])), .fz (.int (tot fs ss)), .fz (.bl ex), a7, .fz (.lst (fs.map encF)), .fz (.lst (ss.map encS)), t10, a11, .un] (by
      show (mFor _ _ _ (frzE 4 _)) = _
      simp only [frzE]
      show (runFor _ _ _ _) = _
      exact f2) ?_
    have h1 := is_low_ok fs ss h
    have h2 := low_due_ok fs ss h
    have h3 := same_ok (lowS fs ss) (lowS fs ss)
    refine mat_nx [.fz (.lst (fs.map encF)), .fz (.int a), .fz (.int b), .fz (.lst (ss.map encS)), .fz (.lst (Ps.map fun p => .tup [.int p.1, .int p.2])), .fz (.int (tot fs ss)), .fz (.bl ex), a7, .fz (.lst (fs.map encF)), .fz (.lst (ss.map encS)), t10, a11, .un] (by simp [h1, h2, h3]) ?_
    have q1 := eqF fs
    have q2 := eqS hs
    have n1 := num_ok (tot fs ss)
    cases ex with
    | false =>
      refine mat_nx [.fz (.lst (fs.map encF)), .fz (.int a), .fz (.int b), .fz (.lst (ss.map encS)), .fz (.lst (Ps.map fun p => .tup [.int p.1, .int p.2])), .fz (.int (tot fs ss)), .fz (.bl false), a7, .fz (.lst (fs.map encF)), .fz (.lst (ss.map encS)), t10, a11, .un] (by simp) ?_
      simp [-eqB, q1, q2, run]
    | true =>
      have hc := cost_ok fs ss (hex.mp rfl) (by omega)
      refine mat_nx [.fz (.lst (fs.map encF)), .fz (.int a), .fz (.int b), .fz (.lst (ss.map encS)), .fz (.lst (Ps.map fun p => .tup [.int p.1, .int p.2])), .fz (.int (tot fs ss)), .fz (.bl true), a7, .fz (.lst (fs.map encF)), .fz (.lst (ss.map encS)), t10, a11, .fz (.int (tot fs ss))] (by simp [hc, n1]) ?_
      simp [-eqB, q1, q2, run]
  show run (mSeq _ _ [.fz (.lst (fs.map encF)), .fz (.int a), .fz (.int b), .fz (.lst (ss.map encS)), .un, .un, .un, .un, .un, .un, .un, .un, .un]) = _
  refine mat_nx [.fz (.lst (fs.map encF)), .fz (.int a), .fz (.int b), .fz (.lst (ss.map encS)), .ow [.tup [.int a, .int b], .tup [.int b, .int a], .tup [.int a, .int a], .tup [.int b, .int b]], .un, .un, .un, .un, .un, .un, .un, .un] (by simp) ?_
  refine mat_nx [.fz (.lst (fs.map encF)), .fz (.int a), .fz (.int b), .fz (.lst (ss.map encS)), .ow [.tup [.int a, .int b], .tup [.int b, .int a], .tup [.int a, .int a], .tup [.int b, .int b]], .fz (.int 0), .un, .un, .un, .un, .un, .un, .un] (by simp) ?_
  refine mat_nx [.fz (.lst (fs.map encF)), .fz (.int a), .fz (.int b), .fz (.lst (ss.map encS)), .ow [.tup [.int a, .int b], .tup [.int b, .int a], .tup [.int a, .int a], .tup [.int b, .int b]], .fz (.int 0), .fz (.bl true), .un, .un, .un, .un, .un, .un] (by simp) ?_
  refine mat_for (ss.map encS) _ (by simp) f1 ?_
  by_cases hne : ex = true ∧ ss ≠ []
  · obtain ⟨he, hn⟩ := hne
    obtain ⟨s, sr, rfl⟩ : ∃ s sr, ss = s :: sr := by
      cases ss with
      | nil => exact absurd rfl hn
      | cons s sr => exact ⟨s, sr, rfl⟩
    obtain ⟨si, sz, e⟩ : ∃ i z, s :: sr = i ++ [z] := ⟨_, _, (List.dropLast_concat_getLast (List.cons_ne_nil s sr)).symm⟩
    obtain ⟨x1, y1, c1, e1⟩ := hex.mp he s (List.mem_cons_self ..)
    obtain ⟨x2, y2, c2, e2⟩ := hex.mp he sz (by rw [e]; exact List.mem_append_right _ (List.mem_singleton.mpr rfl))
    have l1 := law_step_ok fs s
    have l2 := law_step_ok fs sz
    rw [e1] at l1
    rw [e2] at l2
    have first : atI ((s :: sr).map encS) 0 = some (encS s) := atI_nat (j := 0) rfl
    have last : atI ((s :: sr).map encS) ((((s :: sr).map encS).length : Int) - 1) = some (encS sz) := by
      rw [e, List.map_append, List.length_append, List.map_singleton, List.length_singleton]
      have := atI_last' (xs := si.map encS) (x := encS sz)
      rw [show (((si.map encS).length + 1 : Nat) : Int) - 1 = (si.map encS).length by omega]
      exact this
    have lp : (0 : Int) < (((s :: sr).map encS).length : Int) := by simp
    have mm := main [(a, b), (b, a), (a, a), (b, b), (x1, y2)] t7 t11
    generalize (s :: sr).map encS = SS at first last lp mm ⊢
    refine mat_nx [.fz (.lst (fs.map encF)), .fz (.int a), .fz (.int b), .fz (.lst SS), .ow [.tup [.int a, .int b], .tup [.int b, .int a], .tup [.int a, .int a], .tup [.int b, .int b], .tup [.int x1, .int y2]], .fz (.int (tot fs (s :: sr))), .fz (.bl ex), t7, .un, .un, .un, t11, .un] ?_ mm
    simp only [mIfS, mAnd, mVarT, mUn, mBin, intOp, lenD, mC, truD, blOf, he]
    simp [first, last, l1, l2, oT, show 0 < SS.length by omega]
  · refine mat_nx [.fz (.lst (fs.map encF)), .fz (.int a), .fz (.int b), .fz (.lst (ss.map encS)), .ow [.tup [.int a, .int b], .tup [.int b, .int a], .tup [.int a, .int a], .tup [.int b, .int b]], .fz (.int (tot fs ss)), .fz (.bl ex), t7, .un, .un, .un, t11, .un] ?_ (main [(a, b), (b, a), (a, a), (b, b)] t7 t11)
    cases ex with
    | false => simp
    | true =>
      have : ss = [] := Classical.byContradiction fun z => hne ⟨rfl, z⟩
      subst this
      simp
end Sx

set_option Elab.async false
set_option linter.all false
set_option maxRecDepth 100000
set_option maxHeartbeats 4000000
namespace Sx
open PySem L2
theorem for_test {α : Type} {mg : En → D → Option En} {mb : En → Option Out} (f : α → D) (p : α → Bool) (I : En → Prop) (r : D) : ∀ (xs : List α) (E : En), I E →
    (∀ x ∈ xs, ∀ E, I E → ∃ E1, mg E (f x) = some E1 ∧ (p x = true → ∃ E2, mb E1 = some (.nx E2) ∧ I E2) ∧ (p x = false → mb E1 = some (.rt r))) →
    (xs.all p = true ∧ ∃ E', runFor mg mb (xs.map f) E = some (.nx E') ∧ I E') ∨ (xs.all p = false ∧ runFor mg mb (xs.map f) E = some (.rt r))
  | [], E, h, _ => .inl ⟨rfl, E, rfl, h⟩
  | x :: xs, E, h, hs => by
    obtain ⟨E1, h1, h2, h3⟩ := hs x (List.mem_cons_self ..) E h
    cases hp : p x with
    | true =>
      obtain ⟨E2, h4, h5⟩ := h2 hp
      rw [List.map_cons, for_nx h1 h4, List.all_cons, hp, Bool.true_and]
      exact for_test f p I r xs E2 h5 fun y hy => hs y (List.mem_cons_of_mem _ hy)
    | false =>
      rw [List.map_cons, for_rt h1 (h3 hp), List.all_cons, hp, Bool.false_and]
      exact .inr ⟨rfl, rfl⟩
def hAt (hs : List Int) (i : Int) : Int := hs.getD i.toNat 0
theorem at_hs {hs : List Int} {i : Int} (h0 : 0 ≤ i) (h : i < hs.length) : atI (hs.map D.int) i = some (.int (hAt hs i)) := by
  obtain ⟨x, h1, h2⟩ := atI_mapD (f := D.int) h0 h
  rw [h1]
  unfold hAt
  rw [List.getD_eq_getElem?_getD, h2]
  rfl
def rise (hs : List Int) (f : F) : Int := hAt hs f.b - hAt hs f.a
def fit1 (hs : List Int) (f : F) : Bool := (match f.lo with | none => true | some l => decide (l ≤ rise hs f)) && (match f.hi with | none => true | some h => decide (rise hs f ≤ h))
def fitsS (hs : List Int) (fs : List F) : Bool := fs.all (fit1 hs)
def InR (n : Nat) (fs : List F) : Prop := ∀ f ∈ fs, (0 ≤ f.a ∧ f.a < n) ∧ (0 ≤ f.b ∧ f.b < n)
theorem fits_facts_ok (hs : List Int) (fs : List F) (h : InR hs.length fs) : m_fits_facts [.lst (fs.map encF), .lst (hs.map .int)] = some (.bl (fitsS hs fs)) := by
  unfold m_fits_facts callM b_fits_facts
  simp
  generalize hmb : mSeq (mSet 6 _) _ = mb
  rcases for_test (mg := gTupM 4 (gsCons (gM 2) (gsCons (gM 3) (gsCons (gM 4) (gsCons (gM 5) gsNil))))) (mb := mb) encF (fit1 hs)
      (fun E => ∃ s2 s3 s4 s5 s6, E = [.fz (.lst (fs.map encF)), .fz (.lst (hs.map .int)), s2, s3, s4, s5, s6]) (.bl false) fs [.fz (.lst (fs.map encF)), .fz (.lst (hs.map .int)), .un, .un, .un, .un, .un] ⟨_, _, _, _, _, rfl⟩ fun f hf E hE => by
    obtain ⟨s2, s3, s4, s5, s6, rfl⟩ := hE
    obtain ⟨⟨a1, a2⟩, b1, b2⟩ := h f hf
    have ha := at_hs (hs := hs) a1 a2
    have hb := at_hs (hs := hs) b1 b2
    refine ⟨_, rfl, fun hp => ?_, fun hp => ?_⟩
    · refine ⟨_, ?_, .fz (.int f.a), .fz (.int f.b), .fz (oD f.lo), .fz (oD f.hi), .fz (.int (rise hs f)), rfl⟩
      subst hmb
      unfold fit1 rise at hp
      cases hl : f.lo with
      | none =>
        cases hh : f.hi with
        | none => simp [ha, hb, oD, rise, hl, hh]
        | some u =>
          simp [hl, hh] at hp
          have q2 : ¬ (u < hAt hs f.b - hAt hs f.a) := by omega
          simp [ha, hb, oD, rise, hl, hh, q2]
      | some l =>
        cases hh : f.hi with
        | none =>
          simp [hl, hh] at hp
          have q1 : ¬ (hAt hs f.b - hAt hs f.a < l) := by omega
          simp [ha, hb, oD, rise, hl, hh, q1]
        | some u =>
          simp [hl, hh] at hp
          have q1 : ¬ (hAt hs f.b - hAt hs f.a < l) := by omega
          have q2 : ¬ (u < hAt hs f.b - hAt hs f.a) := by omega
          simp [ha, hb, oD, rise, hl, hh, q1, q2]
    · subst hmb
      unfold fit1 rise at hp
      cases hl : f.lo with
      | none =>
        cases hh : f.hi with
        | none => simp [hl, hh] at hp
        | some u =>
          simp [hl, hh] at hp
          have q2 : u < hAt hs f.b - hAt hs f.a := by omega
          simp [ha, hb, oD, rise, hl, hh, q2]
      | some l =>
        by_cases q1 : hAt hs f.b - hAt hs f.a < l
        · simp [ha, hb, oD, rise, hl, q1]
        · cases hh : f.hi with
          | none =>
            simp [hl, hh] at hp
            omega
          | some u =>
            simp [hl, hh] at hp
            have q2 : u < hAt hs f.b - hAt hs f.a := by omega
            simp [ha, hb, oD, rise, hl, hh, q1, q2] with ⟨e, E', h1, h2⟩ | ⟨e, h1⟩
  · obtain ⟨s2, s3, s4, s5, s6, rfl⟩ := h2
    rw [h1]
    unfold fitsS
    rw [e]
    rfl
  · rw [h1]
    unfold fitsS
    rw [e]
    rfl
theorem fits_due_ok (hs : List Int) (fs : List F) (h : InR hs.length fs) : m__law_fits_due [.lst (fs.map encF), .lst (hs.map .int)] = some (.bl (fitsS hs fs)) := by
  unfold m__law_fits_due callM b__law_fits_due
  simp
  generalize hmb : mSeq (mSet 3 _) _ = mb
  rcases for_test (mg := gM 2) (mb := mb) encF (fit1 hs)
      (fun E => ∃ s2 s3, E = [.fz (.lst (fs.map encF)), .fz (.lst (hs.map .int)), s2, s3]) (.bl false) fs [.fz (.lst (fs.map encF)), .fz (.lst (hs.map .int)), .un, .un] ⟨_, _, rfl⟩ fun f hf E hE => by
    obtain ⟨s2, s3, rfl⟩ := hE
    obtain ⟨⟨a1, a2⟩, b1, b2⟩ := h f hf
    have ha := at_hs (hs := hs) a1 a2
    have hb := at_hs (hs := hs) b1 b2
    refine ⟨_, rfl, fun hp => ?_, fun hp => ?_⟩
    · refine ⟨_, ?_, .fz (encF f), .fz (.int (rise hs f)), rfl⟩
      subst hmb
      unfold fit1 rise at hp
      cases hl : f.lo with
      | none =>
        cases hh : f.hi with
        | none => simp [ha, hb, oD, rise, hl, hh, encF]
        | some u =>
          simp [hl, hh] at hp
          have q2 : ¬ (u < hAt hs f.b - hAt hs f.a) := by omega
          simp [ha, hb, oD, rise, hl, hh, q2, encF]
      | some l =>
        cases hh : f.hi with
        | none =>
          simp [hl, hh] at hp
          have q1 : ¬ (hAt hs f.b - hAt hs f.a < l) := by omega
          simp [ha, hb, oD, rise, hl, hh, q1, encF]
        | some u =>
          simp [hl, hh] at hp
          have q1 : ¬ (hAt hs f.b - hAt hs f.a < l) := by omega
          have q2 : ¬ (u < hAt hs f.b - hAt hs f.a) := by omega
          simp [ha, hb, oD, rise, hl, hh, q1, q2, encF]
    · subst hmb
      unfold fit1 rise at hp
      cases hl : f.lo with
      | none =>
        cases hh : f.hi with
        | none => simp [hl, hh] at hp
        | some u =>
          simp [hl, hh] at hp
          have q2 : u < hAt hs f.b - hAt hs f.a := by omega
          simp [ha, hb, oD, rise, hl, hh, q2, encF]
      | some l =>
        by_cases q1 : hAt hs f.b - hAt hs f.a < l
        · simp [ha, hb, oD, rise, hl, q1, encF]
        · cases hh : f.hi with
          | none =>
            simp [hl, hh] at hp
            omega
          | some u =>
            simp [hl, hh] at hp
            have q2 : u < hAt hs f.b - hAt hs f.a := by omega
            simp [ha, hb, oD, rise, hl, hh, q1, q2, encF] with ⟨e, E', h1, h2⟩ | ⟨e, h1⟩
  · obtain ⟨s2, s3, rfl⟩ := h2
    rw [h1]
    unfold fitsS
    rw [e]
    rfl
  · rw [h1]
    unfold fitsS
    rw [e]
    rfl
end Sx

set_option Elab.async false
set_option linter.all false
set_option maxRecDepth 100000
set_option maxHeartbeats 4000000
namespace Sx
open PySem L2
def TightP (hs : List Int) (fs ts : List F) : Prop := ∀ (j : Nat) (t : F), ts[j]? = some t → ∃ f, fs[j]? = some f ∧ t.a = f.a ∧ t.b = f.b ∧ fit1 hs t = true
theorem tight_ok (ns : List Int) (fs : List F) (hs : List Int) (hl : fs.length ≤ 400) (h : InR hs.length fs) :
    ∃ ts : List F, m__law_tight [.scr ns, .lst (fs.map encF), .lst (hs.map .int)] = some (.lst (ts.map encF)) ∧ ts.length = fs.length ∧ TightP hs fs ts := by
  obtain ⟨zs, z1, z2, z3⟩ := digits_ok ns (at_ := 13) (count := 2 * (fs.length : Int)) (by omega) (by omega)
  unfold m__law_tight callM b__law_tight
  simp [mulOk_l, z1, show (fs.length : Int) ≤ 100000 by omega, show -100000 ≤ (fs.length : Int) by omega]
  generalize hmb : mSeq (mSet 6 _) _ = mb
  obtain ⟨E', h1, h2⟩ := runFor_inv (mg := gM 5) (mb := mb) (fun j E => ∃ (ts : List F) (s5 s6 s7 s8 : Sl), E = [.fz (.scr ns), .fz (.lst (fs.map encF)), .fz (.lst (hs.map .int)), .fz (.lst (zs.map .int)), .ow (ts.map encF), s5, s6, s7, s8] ∧ ts.length = j ∧ TightP hs fs ts)
      (rangeD 0 fs.length) 0 [.fz (.scr ns), .fz (.lst (fs.map encF)), .fz (.lst (hs.map .int)), .fz (.lst (zs.map .int)), .ow [], .un, .un, .un, .un] ⟨[], _, _, _, _, rfl, rfl, fun j t q => (by simp at q)⟩ fun j d E hj hI => by
    obtain ⟨ts, s5, s6, s7, s8, rfl, tl, tp⟩ := hI
    obtain ⟨rfl, hjl⟩ := range_at hj
    rw [Nat.zero_add] at tl
    obtain ⟨f, hf, hf2⟩ := atI_mapD (f := encF) (xs := fs) (i := (j : Int)) (by omega) (by omega)
    have hf3 : fs[j]? = some f := by simpa using hf2
    obtain ⟨⟨a1, a2⟩, b1, b2⟩ := h f (List.mem_of_getElem? hf3)
    have ha := at_hs (hs := hs) a1 a2
    have hb := at_hs (hs := hs) b1 b2
    obtain ⟨u0, hu0, _⟩ := atI_mapD (f := D.int) (xs := zs) (i := 2 * (j : Int)) (by omega) (by omega)
    obtain ⟨u1, hu1, _⟩ := atI_mapD (f := D.int) (xs := zs) (i := 2 * (j : Int) + 1) (by omega) (by omega)
    have n0 := Int.emod_nonneg (u0 / 5) (show (1000 : Int) ≠ 0 by decide)
    have n1 := Int.emod_nonneg (u1 / 5) (show (1000 : Int) ≠ 0 by decide)
    obtain ⟨x, hx, hx2⟩ := pick5 (a := .int (hAt hs f.b - hAt hs f.a)) (b := .int (hAt hs f.b - hAt hs f.a)) (c := .int (hAt hs f.b - hAt hs f.a - 1)) (d := .int (hAt hs f.b - hAt hs f.a - u0 / 5 % 1000)) (e := .non) (r := u0 % 5) ⟨Int.emod_nonneg _ (by decide), Int.emod_lt_of_pos _ (by decide)⟩
    obtain ⟨y, hy, hy2⟩ := pick5 (a := .int (hAt hs f.b - hAt hs f.a)) (b := .int (hAt hs f.b - hAt hs f.a)) (c := .int (hAt hs f.b - hAt hs f.a + 1)) (d := .int (hAt hs f.b - hAt hs f.a + u1 / 5 % 1000)) (e := .non) (r := u1 % 5) ⟨Int.emod_nonneg _ (by decide), Int.emod_lt_of_pos _ (by decide)⟩
    obtain ⟨lo, rfl, hlo⟩ : ∃ lo, x = oD lo ∧ ∀ l, lo = some l → l ≤ hAt hs f.b - hAt hs f.a := by
      rcases hx2 with rfl | rfl | rfl | rfl | rfl
      · exact ⟨some _, rfl, fun l q => by cases q; omega⟩
      · exact ⟨some _, rfl, fun l q => by cases q; omega⟩
      · exact ⟨some _, rfl, fun l q => by cases q; omega⟩
      · exact ⟨some _, rfl, fun l q => by cases q; omega⟩
      · exact ⟨none, rfl, fun l q => by cases q⟩
    obtain ⟨hi, rfl, hhi⟩ : ∃ lo, y = oD lo ∧ ∀ l, lo = some l → hAt hs f.b - hAt hs f.a ≤ l := by
      rcases hy2 with rfl | rfl | rfl | rfl | rfl
      · exact ⟨some _, rfl, fun l q => by cases q; omega⟩
      · exact ⟨some _, rfl, fun l q => by cases q; omega⟩
      · exact ⟨some _, rfl, fun l q => by cases q; omega⟩
      · exact ⟨some _, rfl, fun l q => by cases q; omega⟩
      · exact ⟨none, rfl, fun l q => by cases q⟩
    have tt : fit1 hs ⟨f.a, f.b, lo, hi⟩ = true := by
      unfold fit1 rise
      cases lo with
      | none => cases hi with
        | none => rfl
        | some u => simpa using hhi u rfl
      | some l => cases hi with
        | none => simpa using hlo l rfl
        | some u => simpa using ⟨hlo l rfl, hhi u rfl⟩
    refine ⟨_, _, rfl, .inl ?_, ⟨ts ++ [⟨f.a, f.b, lo, hi⟩], .fz (.int (0 + j)), .fz (.int (hAt hs f.b - hAt hs f.a)), .fz (oD lo), .fz (oD hi), rfl, by rw [List.length_append, List.length_singleton]; omega, fun i t q => ?_⟩⟩
    · subst hmb
      have e0 : atI [D.int f.a, D.int f.b, oD f.lo, oD f.hi] 0 = some (.int f.a) := rfl
      have e1 : atI [D.int f.a, D.int f.b, oD f.lo, oD f.hi] 1 = some (.int f.b) := rfl
      simp [mulOk_l, divOk_c, hf, encF, e0, e1, ha, hb, hu0, hu1, hx, hy, show ts.length < 100000 by omega]
    · by_cases z : i < ts.length
      · rw [List.getElem?_append_left z] at q
        exact tp i t q
      · have := (List.getElem?_eq_some_iff.mp q).1
        rw [List.length_append, List.length_singleton] at this
        have e : i = ts.length := by omega
        subst e
        rw [List.getElem?_append_right (Nat.le_refl _), Nat.sub_self] at q
        cases q
        rw [tl]
        exact ⟨f, hf3, rfl, rfl, tt⟩
  obtain ⟨ts, s5, s6, s7, s8, rfl, tl, tp⟩ := h2
  rw [rangeD_len, Nat.zero_add] at tl
  exact ⟨ts, by rw [h1]; rfl, tl, tp⟩
end Sx

set_option Elab.async false
set_option linter.all false
set_option maxRecDepth 100000
set_option maxHeartbeats 4000000
namespace Sx
open PySem L2
theorem mat_ex {a b : En → Option Out} {E : En} {d : D} (Q : En → Prop) (h : ∃ E1, a E = some (.nx E1) ∧ Q E1) (k : ∀ E1, Q E1 → run (b E1) = some d) : run (mSeq a b E) = some d := by
  obtain ⟨E1, h1, h2⟩ := h
  exact mat_nx E1 h1 (k E1 h2)
theorem mat_frz {i : Nat} {a r : En → Option Out} {E : En} {d : D} (E1 : En) (he : frzE i E = E1) (k : run (mSeq a r E1) = some d) : run (mSeq (mFrz i a) r E) = some d := by
  subst he
  exact k
theorem mat_inv {mi : En → Option (List D)} {mg : En → D → Option En} {mb r : En → Option Out} {E : En} {d : D} (I : Nat → En → Prop) (ds : List D) (h : mi E = some ds) (h0 : I 0 E)
    (hs : ∀ (j : Nat) (x : D) (E : En), ds[j]? = some x → I j E → ∃ E1 E2, mg E x = some E1 ∧ mb E1 = some (.nx E2) ∧ I (j + 1) E2) (k : ∀ E1, I ds.length E1 → run (r E1) = some d) : run (mSeq (mFor mi mg mb) r E) = some d := by
  obtain ⟨E', h1, h2⟩ := runFor_inv (mg := mg) (mb := mb) I ds 0 E h0 fun j x E hj hI => by
    rw [Nat.zero_add] at hI ⊢
    obtain ⟨E1, E2, a, b, c⟩ := hs j x E hj hI
    exact ⟨E1, E2, a, .inl b, c⟩
  rw [Nat.zero_add] at h2
  exact mat_for ds E' h h1 (k E' h2)
theorem mat_comp {α β : Type} {i : Nat} {vs : List Nat} {mi : En → Option (List D)} {mg : En → D → Option En} {mt : En → Option Bool} {me : En → Option D} {r : En → Option Out} {E : En} {d : D} (f : α → D) (g : β → D) (P : α → β → Prop) (xs : List α)
    (h : mi E = some (xs.map f)) (hl : xs.length ≤ 100000) (hs : ∀ x ∈ xs, ∃ E1 y, mg (wipeE E vs) (f x) = some E1 ∧ mt E1 = some true ∧ me E1 = some (g y) ∧ P x y)
    (k : ∀ ys : List β, Paired P xs ys → run (r (E.set i (.fz (.lst (ys.map g))))) = some d) : run (mSeq (mSet i (mList (mComp vs mi mg mt me))) r E) = some d := by
  obtain ⟨ys, h1, h2⟩ := runComp_enc (mg := mg) (mt := mt) (me := me) (E0 := wipeE E vs) f g P xs hs
  refine mat_nx _ ?_ (k ys h2)
  simp [h, hl, h1]
theorem pick3 {a b c : D} {r : Int} (h : 0 ≤ r ∧ r < 3) : ∃ x, atI [a, b, c] r = some x ∧ (x = a ∨ x = b ∨ x = c) := by
  have : r = 0 ∨ r = 1 ∨ r = 2 := by omega
  rcases this with rfl | rfl | rfl
  · exact ⟨a, rfl, .inl rfl⟩
  · exact ⟨b, rfl, .inr (.inl rfl)⟩
  · exact ⟨c, rfl, .inr (.inr rfl)⟩
theorem cutG_mem {α : Type} {xs : List α} {lo hi : Option Int} {x : α} (h : x ∈ cutG xs lo hi) : x ∈ xs := by
  unfold cutG at h
  exact List.mem_of_mem_drop (List.mem_of_mem_take h)
theorem cutG_len {α : Type} {xs : List α} {lo hi : Option Int} : (cutG xs lo hi).length ≤ xs.length := by
  unfold cutG
  rw [List.length_take, List.length_drop]
  omega
theorem cutG_to {α : Type} {xs : List α} {b : Int} (h : 0 ≤ b ∧ b ≤ xs.length) : cutG xs none (some b) = xs.take b.toNat := by
  unfold cutG
  rw [sIx_pos h.1]
  show (xs.drop 0).take (min b.toNat xs.length - 0) = _
  rw [List.drop_zero, Nat.sub_zero, Nat.min_eq_left (by omega)]
theorem cutG_from {α : Type} {xs : List α} {a : Int} (h : 0 ≤ a ∧ a ≤ xs.length) : cutG xs (some a) none = xs.drop a.toNat := by
  unfold cutG
  rw [sIx_pos h.1]
  show (xs.drop (min a.toNat xs.length)).take (xs.length - min a.toNat xs.length) = _
  rw [Nat.min_eq_left (by omega), List.take_of_length_le (by rw [List.length_drop]; omega)]
theorem ixN_pos {n : Nat} {i : Int} (h : 0 ≤ i ∧ i < n) : ixN n i = some i.toNat := by
  unfold ixN
  rw [if_pos h.1, if_pos h.2]
@[simp] theorem nolst_bl (b : Bool) : nolst (.bl b) = true := rfl
@[simp] theorem nolst_int (b : Int) : nolst (.int b) = true := rfl
def encA (p : List F × List Int) : D := .tup [.lst (p.1.map encF), .lst (p.2.map .int)]
def AskOk (n : Nat) (p : List F × List Int) : Prop := p.2.length = n ∧ InR n p.1
def encB (p : Option Int × Option Int) : D := .tup [oD p.1, oD p.2]
def eJ (ns : List Int) (fs : List F) (count : Int) (large : Bool) (s4 s5 s6 s7 s8 s9 s10 s11 s12 s13 s14 s15 s16 s17 s18 s19 : Sl) : En := [.fz (.scr ns), .fz (.lst (fs.map encF)), .fz (.int count), .fz (.bl large), s4, s5, s6, s7, s8, s9, s10, s11, s12, s13, s14, s15, s16, s17, s18, s19, .un, .un]
theorem fits_judged_ok (ns : List Int) (fs : List F) (count : Int) (large : Bool) (hc : 2 ≤ count ∧ count ≤ 60) (hl : 0 < fs.length ∧ fs.length ≤ 400) (hr : ∀ f ∈ fs, (0 ≤ f.a ∧ f.a < count) ∧ (0 ≤ f.b ∧ f.b < count) ∧ f.a ≠ f.b) :
    m__law_fits_judged [.scr ns, .lst (fs.map encF), .int count, .bl large] = some (.bl true) := by
  obtain ⟨d0, e0, l0, u0⟩ := draw_ok ns (at_ := 12) (k := 0) (size := 3) (by omega) (by omega) (by omega)
  obtain ⟨sz, hsz, hsz2⟩ := pick3 (a := .int 3) (b := .int 100) (c := .int 100000000000) (r := d0) ⟨l0, u0⟩
  obtain ⟨size, rfl, hsp⟩ : ∃ i : Int, sz = .int i ∧ 0 < i := by
    rcases hsz2 with rfl | rfl | rfl <;> exact ⟨_, rfl, by decide⟩
  obtain ⟨zs, z1, z2, z3⟩ := digits_ok ns (at_ := 11) (count := count) (by omega) (by omega)
  show run (mSeq _ _ (eJ ns fs count large .un .un .un .un .un .un .un .un .un .un .un .un .un .un .un .un)) = _
  refine mat_nx (eJ ns fs count large (.fz (.int size)) .un .un .un .un .un .un .un .un .un .un .un .un .un .un .un) (by simp [eJ, powOk_c, e0, hsz]) ?_
  refine mat_comp D.int D.int (fun _ _ => True) zs (by simp [eJ, z1]) (by omega) (fun z hz => ⟨_, _, rfl, rfl, (by simp [eJ, wipeE, mulOk_r, hsp, divOk_c]; rfl), trivial⟩) fun hs hp => ?_
  have hlen : hs.length = count.toNat := by
    have := Paired.len hp
    omega
  have hin : InR hs.length fs := fun f hf => by
    obtain ⟨q1, q2, _⟩ := hr f hf
    omega
  obtain ⟨ts, t1, t2, t3⟩ := tight_ok ns fs hs hl.2 hin
  have tin : InR hs.length ts := fun t ht => by
    obtain ⟨j, hj⟩ := List.getElem?_of_mem ht
    obtain ⟨f, q1, q2, q3, _⟩ := t3 j t hj
    rw [q2, q3]
    exact hin f (List.mem_of_getElem? q1)
  obtain ⟨pl, p1, p2, p3⟩ := draw_ok ns (at_ := 12) (k := 1) (size := (fs.length : Int)) (by omega) (by omega) (by omega)
  obtain ⟨f, hf, hf2⟩ := atI_mapD (f := encF) (xs := fs) (i := pl) (by omega) (by omega)
  obtain ⟨⟨a1, a2⟩, ⟨b1, b2⟩, ne⟩ := hr f (List.mem_of_getElem? hf2)
  have ha := at_hs (hs := hs) (i := f.a) a1 (by omega)
  have hb := at_hs (hs := hs) (i := f.b) b1 (by omega)
  have xa := ixN_pos (n := hs.length) (i := f.a) (by omega)
  have xb := ixN_pos (n := hs.length) (i := f.b) (by omega)
  have xp := ixN_pos (n := ts.length) (i := pl) (by omega)
  obtain ⟨d2, e2, _, _⟩ := draw_ok ns (at_ := 12) (k := 2) (size := 2) (by omega) (by omega) (by omega)
  obtain ⟨d3, e3, _, _⟩ := draw_ok ns (at_ := 12) (k := 3) (size := 1000003) (by omega) (by omega) (by omega)
  refine mat_nx (eJ ns fs count large (.fz (.int size)) (.fz (.lst (hs.map .int))) (.fz (.lst (ts.map encF))) .un .un .un .un .un .un .un .un .un .un .un .un .un) (by simp [eJ, t1]) ?_
  refine mat_nx (eJ ns fs count large (.fz (.int size)) (.fz (.lst (hs.map .int))) (.fz (.lst (ts.map encF))) (.fz (.int pl)) .un .un .un .un .un .un .un .un .un .un .un .un) (by simp [eJ, p1]) ?_
  refine mat_nx (eJ ns fs count large (.fz (.int size)) (.fz (.lst (hs.map .int))) (.fz (.lst (ts.map encF))) (.fz (.int pl)) (.fz (.int f.a)) .un .un .un .un .un .un .un .un .un .un .un) (by simp [eJ, hf, encF]) ?_
  refine mat_nx (eJ ns fs count large (.fz (.int size)) (.fz (.lst (hs.map .int))) (.fz (.lst (ts.map encF))) (.fz (.int pl)) (.fz (.int f.a)) (.fz (.int f.b)) .un .un .un .un .un .un .un .un .un .un) (by simp [eJ, hf, encF]) ?_
  refine mat_nx (eJ ns fs count large (.fz (.int size)) (.fz (.lst (hs.map .int))) (.fz (.lst (ts.map encF))) (.fz (.int pl)) (.fz (.int f.a)) (.fz (.int f.b)) (.fz (.int (rise hs f))) .un .un .un .un .un .un .un .un .un) (by simp [eJ, ha, hb, rise]) ?_
  refine mat_nx (eJ ns fs count large (.fz (.int size)) (.fz (.lst (hs.map .int))) (.fz (.lst (ts.map encF))) (.fz (.int pl)) (.fz (.int f.a)) (.fz (.int f.b)) (.fz (.int (rise hs f))) (.ow (hs.map .int)) .un .un .un .un .un .un .un .un) (by simp [eJ]) ?_
  refine mat_nx (eJ ns fs count large (.fz (.int size)) (.fz (.lst (hs.map .int))) (.fz (.lst (ts.map encF))) (.fz (.int pl)) (.fz (.int f.a)) (.fz (.int f.b)) (.fz (.int (rise hs f))) (.ow ((hs.set f.a.toNat (hAt hs f.a + 1 - 2 * d2)).map .int)) .un .un .un .un .un .un .un .un) (by simp [eJ, ha, mulOk_l, e2, xa, List.map_set]) ?_
  obtain ⟨bent, hbent, blen⟩ : ∃ bent, bent = hs.set f.a.toNat (hAt hs f.a + 1 - 2 * d2) ∧ bent.length = hs.length := ⟨_, rfl, List.length_set⟩
  rw [← hbent]
  refine mat_nx (eJ ns fs count large (.fz (.int size)) (.fz (.lst (hs.map .int))) (.fz (.lst (ts.map encF))) (.fz (.int pl)) (.fz (.int f.a)) (.fz (.int f.b)) (.fz (.int (rise hs f))) (.ow (bent.map .int)) (.fz (.int (d3 - 500000))) .un .un .un .un .un .un .un) (by simp [eJ, e3]) ?_
  refine mat_frz (eJ ns fs count large (.fz (.int size)) (.fz (.lst (hs.map .int))) (.fz (.lst (ts.map encF))) (.fz (.int pl)) (.fz (.int f.a)) (.fz (.int f.b)) (.fz (.int (rise hs f))) (.fz (.lst (bent.map .int))) (.fz (.int (d3 - 500000))) .un .un .un .un .un .un .un) rfl ?_
  obtain ⟨us, c1, c2⟩ := runComp_enc (mg := gM 21) (mt := mYes) (me := mBin addD (mVarT 21) (mVarT 12)) (E0 := eJ ns fs count large (.fz (.int size)) (.fz (.lst (hs.map .int))) (.fz (.lst (ts.map encF))) (.fz (.int pl)) (.fz (.int f.a)) (.fz (.int f.b)) (.fz (.int (rise hs f))) (.fz (.lst (bent.map .int))) (.fz (.int (d3 - 500000))) .un .un .un .un .un .un .un) D.int D.int (fun _ _ => True) hs (fun z hz => ⟨_, _, rfl, rfl, (by simp [eJ]; rfl), trivial⟩)
  have ul := Paired.len c2
  simp [eJ] at c1
  refine mat_nx (eJ ns fs count large (.fz (.int size)) (.fz (.lst (hs.map .int))) (.fz (.lst (ts.map encF))) (.fz (.int pl)) (.fz (.int f.a)) (.fz (.int f.b)) (.fz (.int (rise hs f))) (.fz (.lst (bent.map .int))) (.fz (.int (d3 - 500000))) (.ow ([(ts, hs), (ts, bent), (ts, us), (fs, hs)].map encA)) .un .un .un .un .un .un) (by simp [eJ, wipeE, c1, encA, show hs.length ≤ 100000 by omega]) ?_
  refine mat_frz (eJ ns fs count large (.fz (.int size)) (.fz (.lst (hs.map .int))) (.fz (.lst (ts.map encF))) (.fz (.int pl)) (.fz (.int f.a)) (.fz (.int f.b)) (.fz (.int (rise hs f))) (.fz (.lst (bent.map .int))) (.fz (.int (d3 - 500000))) (.ow ([(ts, hs), (ts, bent), (ts, us), (fs, hs)].map encA)) .un .un .un .un .un .un) rfl ?_
  refine mat_nx (eJ ns fs count large (.fz (.int size)) (.fz (.lst (hs.map .int))) (.fz (.lst (ts.map encF))) (.fz (.int pl)) (.fz (.int f.a)) (.fz (.int f.b)) (.fz (.int (rise hs f))) (.fz (.lst (bent.map .int))) (.fz (.int (d3 - 500000))) (.ow ([(ts, hs), (ts, bent), (ts, us), (fs, hs), ([], hs), (cutG ts none (some pl), bent), (ts, List.replicate count.toNat 0), (fs, List.replicate count.toNat 0)].map encA)) .un .un .un .un .un .un) (by simp [eJ, encA, cutD_map, rep_one, show count ≤ 100000 by omega, show -100000 ≤ count by omega, show count.toNat ≤ 100000 by omega]) ?_
  refine mat_inv (fun j E => ∃ (asks : List (List F × List Int)) (t14 : Sl), E = eJ ns fs count large (.fz (.int size)) (.fz (.lst (hs.map .int))) (.fz (.lst (ts.map encF))) (.fz (.int pl)) (.fz (.int f.a)) (.fz (.int f.b)) (.fz (.int (rise hs f))) (.fz (.lst (bent.map .int))) (.fz (.int (d3 - 500000))) (.ow (asks.map encA)) t14 .un .un .un .un .un ∧ asks.length = 8 + j ∧ ∀ p ∈ asks, AskOk hs.length p)
      ([(some (rise hs f + 1), none), (none, some (rise hs f - 1)), (some (rise hs f + 1), some (rise hs f - 1)), (some (rise hs f), some (rise hs f)), (some (rise hs f + 1), some (rise hs f + 1)), (none, none)].map encB) (by simp [eJ, encB, oD]) ⟨_, _, rfl, rfl, ?_⟩ ?_ ?_
  · intro p hp
    simp at hp
    rcases hp with rfl | rfl | rfl | rfl | rfl | rfl | rfl | rfl
    · exact ⟨rfl, tin⟩
    · exact ⟨blen, tin⟩
    · exact ⟨ul.symm, tin⟩
    · exact ⟨rfl, hin⟩
    · exact ⟨rfl, fun t ht => by cases ht⟩
    · exact ⟨blen, fun t ht => tin t (cutG_mem ht)⟩
    · exact ⟨by rw [List.length_replicate, hlen], tin⟩
    · exact ⟨by rw [List.length_replicate, hlen], hin⟩
  · rintro j x E hj ⟨asks, t14, rfl, g1, g2⟩
    obtain ⟨q, rfl, hq⟩ := map_at hj
    have jl := (List.getElem?_eq_some_iff.mp hq).1
    simp at jl
    refine ⟨_, eJ ns fs count large (.fz (.int size)) (.fz (.lst (hs.map .int))) (.fz (.lst (ts.map encF))) (.fz (.int pl)) (.fz (.int f.a)) (.fz (.int f.b)) (.fz (.int (rise hs f))) (.fz (.lst (bent.map .int))) (.fz (.int (d3 - 500000))) (.ow ((asks ++ [(cutG ts none (some pl) ++ [F.mk f.a f.b q.1 q.2] ++ cutG ts (some (pl + 1)) none, hs)]).map encA)) (.fz (encB q)) .un .un .un .un .un, rfl, ?_, _, _, rfl, by rw [List.length_append, List.length_singleton]; omega, fun p hp => ?_⟩
    · have l1 := cutG_len (xs := ts) (lo := none) (hi := some pl)
      have l2 := cutG_len (xs := ts) (lo := some (pl + 1)) (hi := none)
      simp [eJ, encB, cutD_map, encA, encF, show asks.length < 100000 by omega, show (cutG ts none (some pl)).length ≤ 99999 by omega, show (cutG ts none (some pl)).length + 1 + (cutG ts (some (pl + 1)) none).length ≤ 100000 by omega]
    · rcases List.mem_append.mp hp with w | w
      · exact g2 p w
      · rw [List.mem_singleton.mp w]
        refine ⟨rfl, fun t ht => ?_⟩
        rcases List.mem_append.mp ht with w | w
        · rcases List.mem_append.mp w with w | w
          · exact tin t (cutG_mem w)
          · rw [List.mem_singleton.mp w]
            show (0 ≤ f.a ∧ f.a < _) ∧ (0 ≤ f.b ∧ f.b < _)
            omega
        · exact tin t (cutG_mem w)
  rintro E1 ⟨asks, t14, rfl, g1, g2⟩
  simp only [List.length_map, List.length_cons, List.length_nil] at g1
  refine mat_ex (fun E => ∃ (asks : List (List F × List Int)) (t14 : Sl), E = eJ ns fs count large (.fz (.int size)) (.fz (.lst (hs.map .int))) (.fz (.lst (ts.map encF))) (.fz (.int pl)) (.fz (.int f.a)) (.fz (.int f.b)) (.fz (.int (rise hs f))) (.fz (.lst (bent.map .int))) (.fz (.int (d3 - 500000))) (.ow (asks.map encA)) t14 .un .un .un .un .un ∧ ∀ p ∈ asks, AskOk hs.length p) ?_ ?_
  · cases large with
    | false => exact ⟨_, by simp [eJ], asks, t14, rfl, g2⟩
    | true =>
      obtain ⟨d4, e4, l4, u4⟩ := draw_ok ns (at_ := 12) (k := 4) (size := (asks.length : Int)) (by omega) (by omega) (by omega)
      obtain ⟨x0, x1, x2⟩ := atI_mapD (f := encA) (xs := asks) (i := 0) (by omega) (by omega)
      obtain ⟨y0, y1, y2⟩ := atI_mapD (f := encA) (xs := asks) (i := 1) (by omega) (by omega)
      obtain ⟨w0, w1, w2⟩ := atI_mapD (f := encA) (xs := asks) (i := d4) (by omega) (by omega)
      refine ⟨eJ ns fs count true (.fz (.int size)) (.fz (.lst (hs.map .int))) (.fz (.lst (ts.map encF))) (.fz (.int pl)) (.fz (.int f.a)) (.fz (.int f.b)) (.fz (.int (rise hs f))) (.fz (.lst (bent.map .int))) (.fz (.int (d3 - 500000))) (.ow ([x0, y0, w0].map encA)) t14 .un .un .un .un .un, ?_, [x0, y0, w0], t14, rfl, fun p hp => ?_⟩
      · simp [eJ, x1, y1, e4, w1]
      · simp at hp
        rcases hp with rfl | rfl | rfl
        · exact g2 _ (List.mem_of_getElem? x2)
        · exact g2 _ (List.mem_of_getElem? y2)
        · exact g2 _ (List.mem_of_getElem? w2)
  rintro E1 ⟨asks, t14, rfl, g3⟩
  refine mat_frz (eJ ns fs count large (.fz (.int size)) (.fz (.lst (hs.map .int))) (.fz (.lst (ts.map encF))) (.fz (.int pl)) (.fz (.int f.a)) (.fz (.int f.b)) (.fz (.int (rise hs f))) (.fz (.lst (bent.map .int))) (.fz (.int (d3 - 500000))) (.fz (.lst (asks.map encA))) t14 .un .un .un .un .un) rfl ?_
  refine mat_inv (fun _ E => ∃ s15 s16 s17, E = eJ ns fs count large (.fz (.int size)) (.fz (.lst (hs.map .int))) (.fz (.lst (ts.map encF))) (.fz (.int pl)) (.fz (.int f.a)) (.fz (.int f.b)) (.fz (.int (rise hs f))) (.fz (.lst (bent.map .int))) (.fz (.int (d3 - 500000))) (.fz (.lst (asks.map encA))) t14 s15 s16 s17 .un .un) (asks.map encA) (by simp [eJ]) ⟨_, _, _, rfl⟩ ?_ ?_
  · rintro j x E hj ⟨s15, s16, s17, rfl⟩
    obtain ⟨q, rfl, hq⟩ := map_at hj
    obtain ⟨k1, k2⟩ := g3 q (List.mem_of_getElem? hq)
    rw [← k1] at k2
    have h1 := fits_facts_ok q.2 q.1 k2
    have h2 := fits_due_ok q.2 q.1 k2
    have h3 := same_ok (fitsS q.2 q.1) (fitsS q.2 q.1)
    have h4 := eqF q.1
    have h5 := eqI q.2
    refine ⟨_, eJ ns fs count large (.fz (.int size)) (.fz (.lst (hs.map .int))) (.fz (.lst (ts.map encF))) (.fz (.int pl)) (.fz (.int f.a)) (.fz (.int f.b)) (.fz (.int (rise hs f))) (.fz (.lst (bent.map .int))) (.fz (.int (d3 - 500000))) (.fz (.lst (asks.map encA))) t14 (.fz (encA q)) (.ow (q.2.map .int)) (.ow (q.1.map encF)) .un .un, rfl, ?_, _, _, _, rfl⟩
    simp [-eqB, eJ, encA, h1, h2, h3, h4, h5]
  rintro E1 ⟨s15, s16, s17, rfl⟩
  refine mat_nx (eJ ns fs count large (.fz (.int size)) (.fz (.lst (hs.map .int))) (.fz (.lst (ts.map encF))) (.fz (.int pl)) (.fz (.int f.a)) (.fz (.int f.b)) (.fz (.int (rise hs f))) (.fz (.lst (bent.map .int))) (.fz (.int (d3 - 500000))) (.fz (.lst (asks.map encA))) t14 s15 (.ow (hs.map .int)) s17 .un .un) (by simp [eJ]) ?_
  refine mat_nx (eJ ns fs count large (.fz (.int size)) (.fz (.lst (hs.map .int))) (.fz (.lst (ts.map encF))) (.fz (.int pl)) (.fz (.int f.a)) (.fz (.int f.b)) (.fz (.int (rise hs f))) (.fz (.lst (bent.map .int))) (.fz (.int (d3 - 500000))) (.fz (.lst (asks.map encA))) t14 s15 (.ow (hs.map .int)) (.ow (ts.map encF)) .un .un) (by simp [eJ]) ?_
  obtain ⟨n, hn⟩ : ∃ n : Nat, pl = n := ⟨pl.toNat, by omega⟩
  have pn : pl.toNat = n := by omega
  rw [pn] at xp hf2
  have nl : n < ts.length := by omega
  obtain ⟨r1, hr1⟩ : ∃ r, r = ts.set n ⟨f.a, f.b, some (rise hs f), some (rise hs f)⟩ := ⟨_, rfl⟩
  have fr : ∀ (lo hi : Option Int), InR hs.length (ts.set n ⟨f.a, f.b, lo, hi⟩) := fun lo hi t ht => by
    rcases List.mem_or_eq_of_mem_set ht with w | w
    · exact tin t w
    · rw [w]
      show (0 ≤ f.a ∧ f.a < _) ∧ (0 ≤ f.b ∧ f.b < _)
      omega
  refine mat_nx (eJ ns fs count large (.fz (.int size)) (.fz (.lst (hs.map .int))) (.fz (.lst (ts.map encF))) (.fz (.int pl)) (.fz (.int f.a)) (.fz (.int f.b)) (.fz (.int (rise hs f))) (.fz (.lst (bent.map .int))) (.fz (.int (d3 - 500000))) (.fz (.lst (asks.map encA))) t14 s15 (.ow (hs.map .int)) (.ow (r1.map encF)) .un .un) (by simp [eJ, xp, hr1, List.map_set, encF, oD]) ?_
  have k1 := fits_facts_ok hs r1 (by rw [hr1]; exact fr _ _)
  have v1 : fitsS hs r1 = true := by
    unfold fitsS
    rw [List.all_eq_true]
    intro t ht
    rw [hr1] at ht
    rcases List.mem_or_eq_of_mem_set ht with w | w
    · obtain ⟨j, hj⟩ := List.getElem?_of_mem w
      obtain ⟨_, _, _, _, q⟩ := t3 j t hj
      exact q
    · rw [w]
      simp [fit1, rise]
  rw [v1] at k1
  have k2 := same_ok true true
  refine mat_nx (eJ ns fs count large (.fz (.int size)) (.fz (.lst (hs.map .int))) (.fz (.lst (ts.map encF))) (.fz (.int pl)) (.fz (.int f.a)) (.fz (.int f.b)) (.fz (.int (rise hs f))) (.fz (.lst (bent.map .int))) (.fz (.int (d3 - 500000))) (.fz (.lst (asks.map encA))) t14 s15 (.ow (hs.map .int)) (.ow (r1.map encF)) .un .un) (by simp [eJ, k1, k2]) ?_
  obtain ⟨h2, hh2⟩ : ∃ h, h = hs.set f.b.toNat (hAt hs f.b + 1) := ⟨_, rfl⟩
  have h2l : h2.length = hs.length := by rw [hh2, List.length_set]
  refine mat_nx (eJ ns fs count large (.fz (.int size)) (.fz (.lst (hs.map .int))) (.fz (.lst (ts.map encF))) (.fz (.int pl)) (.fz (.int f.a)) (.fz (.int f.b)) (.fz (.int (rise hs f))) (.fz (.lst (bent.map .int))) (.fz (.int (d3 - 500000))) (.fz (.lst (asks.map encA))) t14 s15 (.ow (h2.map .int)) (.ow (r1.map encF)) .un .un) (by simp [eJ, hb, xb, hh2, List.map_set]) ?_
  have k3 := fits_facts_ok h2 r1 (by rw [hr1, h2l]; exact fr _ _)
  have v3 : fitsS h2 r1 = false := by
    unfold fitsS
    rw [List.all_eq_false]
    refine ⟨⟨f.a, f.b, some (rise hs f), some (rise hs f)⟩, by rw [hr1]; exact List.mem_set nl _, ?_⟩
    have e1 : hAt h2 f.b = hAt hs f.b + 1 := by
      rw [hh2]
      unfold hAt
      rw [List.getD_eq_getElem?_getD, List.getElem?_set_self (by omega)]
      rfl
    have e2 : hAt h2 f.a = hAt hs f.a := by
      rw [hh2]
      unfold hAt
      rw [List.getD_eq_getElem?_getD, List.getElem?_set_ne (by omega), ← List.getD_eq_getElem?_getD]
    simp [fit1, rise, e1, e2]
    omega
  rw [v3] at k3
  have k4 := same_ok false false
  refine mat_nx (eJ ns fs count large (.fz (.int size)) (.fz (.lst (hs.map .int))) (.fz (.lst (ts.map encF))) (.fz (.int pl)) (.fz (.int f.a)) (.fz (.int f.b)) (.fz (.int (rise hs f))) (.fz (.lst (bent.map .int))) (.fz (.int (d3 - 500000))) (.fz (.lst (asks.map encA))) t14 s15 (.ow (h2.map .int)) (.ow (r1.map encF)) .un .un) (by simp [eJ, k3, k4]) ?_
  obtain ⟨r2, hr2⟩ : ∃ r, r = ts.set n ⟨f.a, f.b, none, none⟩ := ⟨_, rfl⟩
  have r1l : r1.length = ts.length := by rw [hr1, List.length_set]
  have hr3 : r2 = r1.set n ⟨f.a, f.b, none, none⟩ := by rw [hr1, hr2, List.set_set]
  refine mat_nx (eJ ns fs count large (.fz (.int size)) (.fz (.lst (hs.map .int))) (.fz (.lst (ts.map encF))) (.fz (.int pl)) (.fz (.int f.a)) (.fz (.int f.b)) (.fz (.int (rise hs f))) (.fz (.lst (bent.map .int))) (.fz (.int (d3 - 500000))) (.fz (.lst (asks.map encA))) t14 s15 (.ow (h2.map .int)) (.ow (r2.map encF)) .un .un) (by simp [eJ, r1l, xp, hr3, List.map_set, encF, oD]) ?_
  refine mat_nx (eJ ns fs count large (.fz (.int size)) (.fz (.lst (hs.map .int))) (.fz (.lst (ts.map encF))) (.fz (.int pl)) (.fz (.int f.a)) (.fz (.int f.b)) (.fz (.int (rise hs f))) (.fz (.lst (bent.map .int))) (.fz (.int (d3 - 500000))) (.fz (.lst (asks.map encA))) t14 s15 (.ow (h2.map .int)) (.ow (r2.map encF)) (.ow (hs.map .int)) .un) (by simp [eJ]) ?_
  refine mat_nx (eJ ns fs count large (.fz (.int size)) (.fz (.lst (hs.map .int))) (.fz (.lst (ts.map encF))) (.fz (.int pl)) (.fz (.int f.a)) (.fz (.int f.b)) (.fz (.int (rise hs f))) (.fz (.lst (bent.map .int))) (.fz (.int (d3 - 500000))) (.fz (.lst (asks.map encA))) t14 s15 (.ow (h2.map .int)) (.ow (r2.map encF)) (.ow (h2.map .int)) .un) (by simp [eJ, hb, xb, hh2, List.map_set]) ?_
  have cut : cutG ts none (some pl) ++ ([⟨f.a, f.b, none, none⟩] ++ cutG ts (some (pl + 1)) none) = r2 := by
    rw [cutG_to (by omega), cutG_from (by omega), pn, show (pl + 1).toNat = n + 1 by omega, hr2, List.set_eq_take_append_cons_drop, if_pos nl]
    rfl
  have k5 := fits_facts_ok h2 r2 (by rw [hr2, h2l]; exact fr _ _)
  have k6 := fits_due_ok h2 r2 (by rw [hr2, h2l]; exact fr _ _)
  have k7 := same_ok (fitsS h2 r2) (fitsS h2 r2)
  have cut2 : (cutG ts none (some pl)).map encF ++ .tup [.int f.a, .int f.b, .non, .non] :: (cutG ts (some (pl + 1)) none).map encF = r2.map encF := by
    rw [← cut, List.map_append, List.map_append]
    rfl
  have l1 := cutG_len (xs := ts) (lo := none) (hi := some pl)
  have l2 := cutG_len (xs := ts) (lo := some (pl + 1)) (hi := none)
  have l3 : (cutG ts none (some pl)).length ≤ 99999 := by omega
  have l4 : (cutG ts none (some pl)).length + 1 + (cutG ts (some (pl + 1)) none).length ≤ 100000 := by omega
  refine mat_nx (eJ ns fs count large (.fz (.int size)) (.fz (.lst (hs.map .int))) (.fz (.lst (ts.map encF))) (.fz (.int pl)) (.fz (.int f.a)) (.fz (.int f.b)) (.fz (.int (rise hs f))) (.fz (.lst (bent.map .int))) (.fz (.int (d3 - 500000))) (.fz (.lst (asks.map encA))) t14 s15 (.ow (h2.map .int)) (.ow (r2.map encF)) (.ow (h2.map .int)) (.fz (.bl (fitsS h2 r2)))) (by simp [eJ, cutD_map, cut2, k6, l3, l4]) ?_
  simp [eJ, k5, k7, run]
end Sx

set_option Elab.async false
set_option linter.all false
set_option maxRecDepth 100000
set_option maxHeartbeats 4000000
namespace Sx
open PySem L2
def fin : Out → Option D
  | .rt d => some d
  | .rf ds => some (.lst ds)
  | _ => none
theorem find_run {mg : En → D → Option En} {mb : En → Option Out} (I : Nat → En → Prop) (T : D → Prop) : ∀ (ds : List D) (i : Nat) (E : En), I i E →
    (∀ (j : Nat) (x : D) (E : En), ds[j]? = some x → I (i + j) E → ∃ E1, mg E x = some E1 ∧ ((∃ E2, mb E1 = some (.nx E2) ∧ I (i + j + 1) E2) ∨ ∃ o d, mb E1 = some o ∧ fin o = some d ∧ T d)) →
    (∃ E', runFor mg mb ds E = some (.nx E') ∧ I (i + ds.length) E') ∨ ∃ o d, runFor mg mb ds E = some o ∧ fin o = some d ∧ T d
  | [], i, E, h, _ => .inl ⟨E, rfl, h⟩
  | x :: ds, i, E, h, hs => by
    obtain ⟨E1, h1, ⟨E2, h2, h3⟩ | ⟨o, d, h2, h3, h4⟩⟩ := hs 0 x E rfl h
    · rw [for_nx h1 h2]
      rcases find_run (mg := mg) (mb := mb) I T ds (i + 1) E2 h3 fun j y E' hj hI => by
        have e : i + 1 + j = i + (j + 1) := by omega
        rw [e] at hI ⊢
        exact hs (j + 1) y E' (by simpa using hj) hI with ⟨E', h4, h5⟩ | h4
      · exact .inl ⟨E', h4, by rw [List.length_cons, show i + (ds.length + 1) = i + 1 + ds.length by omega]; exact h5⟩
      · exact .inr h4
    · refine .inr ⟨o, d, ?_, h3, h4⟩
      show (mg E x).bind _ = _
      rw [h1]
      show (mb E1).bind _ = _
      rw [h2]
      cases o with
      | nx _ => cases h3
      | ct _ => cases h3
      | bk _ => cases h3
      | rt _ => rfl
      | rf _ => rfl
theorem mat_find {mi : En → Option (List D)} {mg : En → D → Option En} {mb r : En → Option Out} {E : En} (I : Nat → En → Prop) (T : D → Prop) (ds : List D) (h : mi E = some ds) (h0 : I 0 E)
    (hs : ∀ (j : Nat) (x : D) (E : En), ds[j]? = some x → I j E → ∃ E1, mg E x = some E1 ∧ ((∃ E2, mb E1 = some (.nx E2) ∧ I (j + 1) E2) ∨ ∃ o d, mb E1 = some o ∧ fin o = some d ∧ T d))
    (k : ∀ E1, I ds.length E1 → ∃ d, run (r E1) = some d ∧ T d) : ∃ d, run (mSeq (mFor mi mg mb) r E) = some d ∧ T d := by
  rcases find_run (mg := mg) (mb := mb) I T ds 0 E h0 fun j x E hj hI => by
    rw [Nat.zero_add] at hI ⊢
    exact hs j x E hj hI with ⟨E', h1, h2⟩ | ⟨o, d, h1, h2, h3⟩
  · rw [Nat.zero_add] at h2
    obtain ⟨d, q1, q2⟩ := k E' h2
    exact ⟨d, mat_for ds E' h h1 q1, q2⟩
  · refine ⟨d, ?_, h3⟩
    show run ((((mi E).bind _)).bind _) = _
    rw [h]
    show run ((runFor mg mb ds E).bind _) = _
    rw [h1]
    cases o with
    | nx _ => cases h2
    | ct _ => cases h2
    | bk _ => cases h2
    | rt _ => exact h2
    | rf _ => exact h2
theorem SOk.app {a b : List (Int × Str)} (ha : SOk a) (hb : SOk b) : SOk (a ++ b) := fun s hs => by
  rcases List.mem_append.mp hs with q | q
  · exact ha s q
  · exact hb s q
theorem SOk.cut {a : List (Int × Str)} (ha : SOk a) {lo hi : Option Int} : SOk (cutG a lo hi) := fun s hs => ha s (cutG_mem hs)
theorem SOk.nil : SOk [] := fun s hs => by cases hs
theorem SOk.one {s : Int × Str} (h : PyData.strOk s.2 = true) : SOk [s] := fun t ht => by
  rw [List.mem_singleton.mp ht]
  exact h
theorem ok_high : PyData.strOk ("high" : Str) = true := by decide +kernel
theorem ok_low : PyData.strOk ("low" : Str) = true := by decide +kernel
theorem encS_p (k : Int) (x : Str) : encS (k, x) = .tup [.int k, .str x] := rfl
theorem detour_ok (fs : List F) (ss : List (Int × Str)) (k : Int) (hk : 0 ≤ k ∧ k < fs.length) (hx : ∀ s ∈ ss, ∃ a b c, lstep fs s = some (a, b, c)) (hl : ss.length ≤ 1000) (so : SOk ss) :
    ∃ rs, m__law_detour [.lst (fs.map encF), .lst (ss.map encS), .int k] = some (.lst (rs.map encS)) ∧ rs.length ≤ ss.length + 2 ∧ SOk rs := by
  obtain ⟨f, hf, hf2⟩ := atI_mapD (f := encF) (xs := fs) (i := k) hk.1 hk.2
  have main : ∃ d, run (b__law_detour [.fz (.lst (fs.map encF)), .fz (.lst (ss.map encS)), .fz (.int k), .un, .un]) = some d ∧ ∃ rs, d = .lst (rs.map encS) ∧ rs.length ≤ ss.length + 2 ∧ SOk rs := by
    unfold b__law_detour
    refine mat_find (fun _ E => ∃ s3 s4, E = [.fz (.lst (fs.map encF)), .fz (.lst (ss.map encS)), .fz (.int k), s3, s4]) _ (rangeD 0 ss.length) (by simp [show (ss.length : Int) ≤ 100000 by omega, show -100000 ≤ (ss.length : Int) by omega]) ⟨_, _, rfl⟩ ?_ ?_
    · rintro j x E hj ⟨s3, s4, rfl⟩
      obtain ⟨rfl, hjl⟩ := range_at hj
      obtain ⟨s, hs, hs2⟩ := atI_mapD (f := encS) (xs := ss) (i := (j : Int)) (by omega) (by omega)
      have hs3 : ss[j]? = some s := by simpa using hs2
      obtain ⟨a, e, c, hl1⟩ := hx s (List.mem_of_getElem? hs3)
      have st := law_step_ok fs s
      rw [hl1] at st
      have c1 := cutG_to (xs := ss) (b := (j : Int) + 1) (by omega)
      have c2 := cutG_from (xs := ss) (a := (j : Int) + 1) (by omega)
      have l1 : (cutG ss none (some ((j : Int) + 1))).length = j + 1 := by
        rw [c1, List.length_take]
        omega
      have l2 : (cutG ss (some ((j : Int) + 1)) none).length = ss.length - (j + 1) := by
        rw [c2, List.length_drop]
        omega
      have w1 : j + 1 ≤ 99999 := by omega
      have w2 : j + 1 ≤ 99998 := by omega
      refine ⟨_, rfl, ?_⟩
      by_cases ha : e = f.a
      · refine .inr ⟨.rf ((cutG ss none (some ((j : Int) + 1)) ++ [(k, ("high" : Str)), (k, ("low" : Str))] ++ cutG ss (some ((j : Int) + 1)) none).map encS), _, ?_, rfl, _, rfl, ?_, (so.cut.app (fun s hs => ?_)).app so.cut⟩
        · simp [hs, st, oT, hf, encF, ha, cutD_map, l1, l2, encS_p, show j + 1 + 2 ≤ 100000 by omega, show j + 1 + 2 + (ss.length - (j + 1)) ≤ 100000 by omega]
        · rw [List.length_append, List.length_append, l1, l2]
          show j + 1 + 2 + _ ≤ _
          omega
        · simp at hs
          rcases hs with rfl | rfl
          · exact ok_high
          · exact ok_low
      · by_cases hb : e = f.b
        · refine .inr ⟨.rf ((cutG ss none (some ((j : Int) + 1)) ++ [(k, ("low" : Str)), (k, ("high" : Str))] ++ cutG ss (some ((j : Int) + 1)) none).map encS), _, ?_, rfl, _, rfl, ?_, (so.cut.app (fun s hs => ?_)).app so.cut⟩
          · have ha2 : ¬ f.b = f.a := by rw [← hb]; exact ha
            simp [hs, st, oT, hf, encF, ha2, hb, cutD_map, l1, l2, encS_p, show j + 1 + 2 ≤ 100000 by omega, show j + 1 + 2 + (ss.length - (j + 1)) ≤ 100000 by omega]
          · rw [List.length_append, List.length_append, l1, l2]
            show j + 1 + 2 + _ ≤ _
            omega
          · simp at hs
            rcases hs with rfl | rfl
            · exact ok_low
            · exact ok_high
        · refine .inl ⟨[.fz (.lst (fs.map encF)), .fz (.lst (ss.map encS)), .fz (.int k), .fz (.int (0 + j)), .fz (.int e)], ?_, _, _, rfl⟩
          simp [hs, st, oT, hf, encF, ha, hb]
    · rintro E1 ⟨s3, s4, rfl⟩
      exact ⟨.lst (ss.map encS), by simp [run], ss, rfl, by omega, so⟩
  obtain ⟨d, h1, rs, rfl, h2, h3⟩ := main
  exact ⟨rs, h1, h2, h3⟩
end Sx

set_option Elab.async false
set_option linter.all false
set_option maxRecDepth 100000
set_option maxHeartbeats 4000000
namespace Sx
open PySem L2
def encN (i : Nat) : D := .int ((0 : Int) + (i : Int))
theorem encN_eq (i : Nat) : encN i = .int (i : Int) := by simp [encN]
abbrev wUp : En → Option Bool := (mAnd (fun E => ((mBin eqD (mBin ixD (mBin ixD (mVarT 1) (mVarT 10)) (mC (.int 0))) (mVarT 5)) E).bind blOf) (fun E => ((mBin ixD (mBin ixD (mVarT 1) (mVarT 10)) (mC (.int 3))) E).map (fun d => !isN d)))
abbrev wDn : En → Option Bool := (mAnd (fun E => ((mBin eqD (mBin ixD (mBin ixD (mVarT 1) (mVarT 10)) (mC (.int 1))) (mVarT 5)) E).bind blOf) (fun E => ((mBin ixD (mBin ixD (mVarT 1) (mVarT 10)) (mC (.int 2))) E).map (fun d => !isN d)))
theorem comp_st {i : Nat} {vs : List Nat} {mi : En → Option (List D)} {mg : En → D → Option En} {mt : En → Option Bool} {me : En → Option D} {E : En} {ds ys : List D} {E0 : En} (h : mi E = some ds) (hl : ds.length ≤ 100000) (hw : wipeE E vs = E0) (h1 : runComp mg mt me E0 ds = some ys) :
    mSet i (mList (mComp vs mi mg mt me)) E = some (.nx (E.set i (.fz (.lst ys)))) := by
  subst hw
  simp [h, hl, h1]
def eW (ns : List Int) (fs : List F) (start : Int) (s3 s4 s5 s6 s7 s8 s9 : Sl) : En := [.fz (.scr ns), .fz (.lst (fs.map encF)), .fz (.int start), s3, s4, s5, s6, s7, s8, s9, .un]
def fAt (fs : List F) (i : Nat) : F := fs.getD i ⟨0, 0, none, none⟩
theorem fAt_at {fs : List F} {i : Nat} (h : i < fs.length) : atI (fs.map encF) (i : Int) = some (encF (fAt fs i)) := by
  obtain ⟨x, h1, h2⟩ := atI_mapD (f := encF) (xs := fs) (i := (i : Int)) (by omega) (by omega)
  rw [h1]
  unfold fAt
  rw [Int.toNat_natCast] at h2
  rw [List.getD_eq_getElem?_getD, h2]
  rfl
theorem isN_oD (o : Option Int) : isN (oD o) = o.isNone := by cases o <;> rfl
theorem up_ok (ns : List Int) (fs : List F) (start at_ : Int) (s3 s4 s6 s7 s8 s9 : Sl) : ∃ us : List Nat, runComp (gM 10) wUp (mVar 10) (eW ns fs start s3 s4 (.fz (.int at_)) s6 s7 s8 s9) (rangeD 0 fs.length) = some (us.map encN) ∧ us.length ≤ fs.length ∧ ∀ u ∈ us, u < fs.length := by
  have := runComp_filt (β := Nat) (mg := gM 10) (mt := wUp) (me := mVar 10) (E0 := eW ns fs start s3 s4 (.fz (.int at_)) s6 s7 s8 s9) encN encN (fun i => decide ((fAt fs i).a = at_) && (fAt fs i).hi.isSome) (List.range fs.length) fun i hi => by
    have h := fAt_at (List.mem_range.mp hi)
    refine ⟨_, rfl, ?_, fun _ => by simp [eW, encN]⟩
    by_cases q : (fAt fs i).a = at_
    · simp [eW, h, encF, encN_eq, q, isN_oD]
      cases (fAt fs i).hi <;> rfl
    · simp [eW, h, encF, encN_eq, q]
  refine ⟨_, this, ?_, fun u hu => List.mem_range.mp (List.mem_filter.mp hu).1⟩
  exact Nat.le_trans (List.length_filter_le ..) (by rw [List.length_range]; exact Nat.le_refl _)
theorem dn_ok (ns : List Int) (fs : List F) (start at_ : Int) (s3 s4 s6 s7 s8 s9 : Sl) : ∃ us : List Nat, runComp (gM 10) wDn (mVar 10) (eW ns fs start s3 s4 (.fz (.int at_)) s6 s7 s8 s9) (rangeD 0 fs.length) = some (us.map encN) ∧ us.length ≤ fs.length ∧ ∀ u ∈ us, u < fs.length := by
  have := runComp_filt (β := Nat) (mg := gM 10) (mt := wDn) (me := mVar 10) (E0 := eW ns fs start s3 s4 (.fz (.int at_)) s6 s7 s8 s9) encN encN (fun i => decide ((fAt fs i).b = at_) && (fAt fs i).lo.isSome) (List.range fs.length) fun i hi => by
    have h := fAt_at (List.mem_range.mp hi)
    refine ⟨_, rfl, ?_, fun _ => by simp [eW, encN]⟩
    by_cases q : (fAt fs i).b = at_
    · simp [eW, h, encF, encN_eq, q, isN_oD]
      cases (fAt fs i).lo <;> rfl
    · simp [eW, h, encF, encN_eq, q]
  refine ⟨_, this, ?_, fun u hu => List.mem_range.mp (List.mem_filter.mp hu).1⟩
  exact Nat.le_trans (List.length_filter_le ..) (by rw [List.length_range]; exact Nat.le_refl _)
theorem walk_ok (ns : List Int) (fs : List F) (start : Int) (hl : fs.length ≤ 400) : ∃ ss, m__law_walk [.scr ns, .lst (fs.map encF), .int start] = some (.lst (ss.map encS)) ∧ ss.length ≤ 8 ∧ SOk ss := by
  obtain ⟨zs, z1, z2, z3⟩ := digits_ok ns (at_ := 8) (count := 9) (by omega) (by omega)
  obtain ⟨y0, hy0, _⟩ := atI_mapD (f := D.int) (xs := zs) (i := 0) (by omega) (by omega)
  have r1 : 0 ≤ y0 % 8 := Int.emod_nonneg _ (by decide)
  have r2 : y0 % 8 < 8 := Int.emod_lt_of_pos _ (by decide)
  have main : ∃ ss, run (b__law_walk (eW ns fs start .un .un .un .un .un .un .un)) = some (.lst (ss.map encS)) ∧ ss.length ≤ 8 ∧ SOk ss := by
    unfold b__law_walk
    rw [seq_nx (eW ns fs start (.fz (.lst (zs.map .int))) .un .un .un .un .un .un) (by simp [eW, z1]), seq_nx (eW ns fs start (.fz (.lst (zs.map .int))) (.ow []) .un .un .un .un .un) (by simp [eW]), seq_nx (eW ns fs start (.fz (.lst (zs.map .int))) (.ow []) (.fz (.int start)) .un .un .un .un) (by simp [eW])]
    suffices q : ∃ d, run (mSeq (mFor _ _ _) (mRetO 4) (eW ns fs start (.fz (.lst (zs.map .int))) (.ow []) (.fz (.int start)) .un .un .un .un)) = some d ∧ ∃ ss, d = .lst (ss.map encS) ∧ ss.length ≤ 8 ∧ SOk ss by
      obtain ⟨d, q1, ss, rfl, q2, q3⟩ := q
      exact ⟨ss, q1, q2, q3⟩
    refine mat_find (fun j E => ∃ ss at_ s6 s7 s8 s9, E = eW ns fs start (.fz (.lst (zs.map .int))) (.ow (ss.map encS)) (.fz (.int at_)) s6 s7 s8 s9 ∧ ss.length ≤ j ∧ SOk ss) _ (rangeD 0 (1 + y0 % 8).toNat) (by simp [eW, hy0, show 1 + y0 % 8 ≤ 100000 by omega, show -100000 ≤ 1 + y0 % 8 by omega]) ⟨[], _, _, _, _, _, rfl, Nat.le_refl _, SOk.nil⟩ ?_ ?_
    · rintro j x E hj ⟨ss, at_, s6, s7, s8, s9, rfl, g1, g2⟩
      obtain ⟨rfl, hjl⟩ := range_at hj
      obtain ⟨us, u1, u2, u3⟩ := up_ok ns fs start at_ (.fz (.lst (zs.map .int))) (.ow (ss.map encS)) (.fz (.int (0 + j))) s7 s8 s9
      obtain ⟨ds, d1, d2, d3⟩ := dn_ok ns fs start at_ (.fz (.lst (zs.map .int))) (.ow (ss.map encS)) (.fz (.int (0 + j))) (.fz (.lst (us.map encN))) s8 s9
      obtain ⟨y, hy, _⟩ := atI_mapD (f := D.int) (xs := zs) (i := 1 + (0 + (j : Int))) (by omega) (by omega)
      refine ⟨_, rfl, .inl ?_⟩
      rw [seq_nx (eW ns fs start (.fz (.lst (zs.map .int))) (.ow (ss.map encS)) (.fz (.int at_)) (.fz (.int (0 + j))) (.fz (.lst (us.map encN))) s8 s9) (comp_st (ds := rangeD 0 fs.length) (by simp [eW, show (fs.length : Int) ≤ 100000 by omega, show -100000 ≤ (fs.length : Int) by omega]) (by rw [rangeD_len]; omega) rfl u1)]
      rw [seq_nx (eW ns fs start (.fz (.lst (zs.map .int))) (.ow (ss.map encS)) (.fz (.int at_)) (.fz (.int (0 + j))) (.fz (.lst (us.map encN))) (.fz (.lst (ds.map encN))) s9) (comp_st (ds := rangeD 0 fs.length) (by simp [eW, show (fs.length : Int) ≤ 100000 by omega, show -100000 ≤ (fs.length : Int) by omega]) (by rw [rangeD_len]; omega) rfl d1)]
      by_cases hz : 0 < us.length + ds.length
      · have p1 : 0 ≤ y % ((us.length : Int) + ds.length) := Int.emod_nonneg _ (by omega)
        have p2 : y % ((us.length : Int) + ds.length) < (us.length : Int) + ds.length := Int.emod_lt_of_pos _ (by omega)
        have hz2 : (0 : Int) < (us.length : Int) + ds.length := by omega
        simp at hy
        by_cases hp : y % ((us.length : Int) + ds.length) < us.length
        · obtain ⟨u, hu, hu2⟩ := atI_mapD (f := encN) (xs := us) p1 hp
          have hf := fAt_at (u3 u (List.mem_of_getElem? hu2))
          refine ⟨eW ns fs start (.fz (.lst (zs.map .int))) (.ow ((ss ++ [((u : Int), ("high" : Str))]).map encS)) (.fz (.int (fAt fs u).b)) (.fz (.int (0 + j))) (.fz (.lst (us.map encN))) (.fz (.lst (ds.map encN))) (.fz (.int (y % ((us.length : Int) + ds.length)))), ?_, _, _, _, _, _, _, rfl, by rw [List.length_append, List.length_singleton]; omega, g2.app (SOk.one ok_high)⟩
          simp [eW, hz2, hy, hp, hu, hf, encN_eq, encF, encS_p, show ss.length < 100000 by omega]
        · obtain ⟨u, hu, hu2⟩ := atI_mapD (f := encN) (xs := ds) (i := y % ((us.length : Int) + ds.length) - us.length) (by omega) (by omega)
          have hf := fAt_at (d3 u (List.mem_of_getElem? hu2))
          refine ⟨eW ns fs start (.fz (.lst (zs.map .int))) (.ow ((ss ++ [((u : Int), ("low" : Str))]).map encS)) (.fz (.int (fAt fs u).a)) (.fz (.int (0 + j))) (.fz (.lst (us.map encN))) (.fz (.lst (ds.map encN))) (.fz (.int (y % ((us.length : Int) + ds.length)))), ?_, _, _, _, _, _, _, rfl, by rw [List.length_append, List.length_singleton]; omega, g2.app (SOk.one ok_low)⟩
          simp [eW, hz2, hy, hp, hu, hf, encN_eq, encF, encS_p, show ss.length < 100000 by omega]
      · refine ⟨eW ns fs start (.fz (.lst (zs.map .int))) (.ow (ss.map encS)) (.fz (.int at_)) (.fz (.int (0 + j))) (.fz (.lst (us.map encN))) (.fz (.lst (ds.map encN))) s9, ?_, _, _, _, _, _, _, rfl, by omega, g2⟩
        simp [eW, show ¬ ((0 : Int) < (us.length : Int) + ds.length) by omega]
    · rintro E1 ⟨ss, at_, s6, s7, s8, s9, rfl, g1, g2⟩
      rw [rangeD_len] at g1
      exact ⟨.lst (ss.map encS), by simp [run, eW], ss, rfl, by omega, g2⟩
  exact main
end Sx

set_option Elab.async false
set_option linter.all false
set_option maxRecDepth 100000
set_option maxHeartbeats 4000000
namespace Sx
open PySem L2
def encL (ss : List (Int × Str)) : D := .lst (ss.map encS)
def LOk (ss : List (Int × Str)) : Prop := ss.length ≤ 1000 ∧ SOk ss
theorem pick6 {a b c d e f : D} {r : Int} (h : 0 ≤ r ∧ r < 6) : ∃ x, atI [a, b, c, d, e, f] r = some x ∧ (x = a ∨ x = b ∨ x = c ∨ x = d ∨ x = e ∨ x = f) := by
  have : r = 0 ∨ r = 1 ∨ r = 2 ∨ r = 3 ∨ r = 4 ∨ r = 5 := by omega
  rcases this with rfl | rfl | rfl | rfl | rfl | rfl
  · exact ⟨a, rfl, .inl rfl⟩
  · exact ⟨b, rfl, .inr (.inl rfl)⟩
  · exact ⟨c, rfl, .inr (.inr (.inl rfl))⟩
  · exact ⟨d, rfl, .inr (.inr (.inr (.inl rfl)))⟩
  · exact ⟨e, rfl, .inr (.inr (.inr (.inr (.inl rfl))))⟩
  · exact ⟨f, rfl, .inr (.inr (.inr (.inr (.inr rfl))))⟩
theorem LOk.app {a b : List (Int × Str)} (ha : SOk a) (hb : SOk b) (h : a.length + b.length ≤ 1000) : LOk (a ++ b) := ⟨by rw [List.length_append]; exact h, ha.app hb⟩
theorem all_app {α : Type} {P : α → Prop} {a b : List α} (ha : ∀ x ∈ a, P x) (hb : ∀ x ∈ b, P x) : ∀ x ∈ a ++ b, P x := fun x hx => by
  rcases List.mem_append.mp hx with q | q
  · exact ha x q
  · exact hb x q
theorem all_cons {α : Type} {P : α → Prop} {x : α} {b : List α} (ha : P x) (hb : ∀ x ∈ b, P x) : ∀ y ∈ x :: b, P y := fun y hy => by
  rcases List.mem_cons.mp hy with q | q
  · rw [q]; exact ha
  · exact hb y q
theorem all_nil {α : Type} {P : α → Prop} : ∀ y ∈ ([] : List α), P y := fun y hy => by cases hy
def eL (ns : List Int) (fs : List F) (rg : List (Int × Str)) (a b : Int) (s5 s6 s7 s8 s9 s10 s11 s12 s13 s14 s15 s16 s17 s18 s19 : Sl) : En := [.fz (.scr ns), .fz (.lst (fs.map encF)), .fz (.lst (rg.map encS)), .fz (.int a), .fz (.int b), s5, s6, s7, s8, s9, s10, s11, s12, s13, s14, s15, s16, s17, s18, s19]
theorem runFor_ex {mg : En → D → Option En} {mb : En → Option Out} (I : Nat → En → Prop) (ds : List D) (E : En) (h0 : I 0 E)
    (hs : ∀ (j : Nat) (x : D) (E : En), ds[j]? = some x → I j E → ∃ E1 E2, mg E x = some E1 ∧ mb E1 = some (.nx E2) ∧ I (j + 1) E2) : ∃ E1, runFor mg mb ds E = some (.nx E1) ∧ I ds.length E1 := by
  obtain ⟨E', h1, h2⟩ := runFor_inv (mg := mg) (mb := mb) I ds 0 E h0 fun j x E hj hI => by
    rw [Nat.zero_add] at hI ⊢
    obtain ⟨E1, E2, a, b, c⟩ := hs j x E hj hI
    exact ⟨E1, E2, a, .inl b, c⟩
  rw [Nat.zero_add] at h2
  exact ⟨E', h1, h2⟩
theorem lists_ok (ns : List Int) (fs : List F) (rg : List (Int × Str)) (a b : Int) (hl : 0 < fs.length ∧ fs.length ≤ 400) (hr : 2 ≤ rg.length ∧ rg.length ≤ 60) (so : SOk rg) (hx : ∀ s ∈ rg, ∃ a b c, lstep fs s = some (a, b, c)) :
    ∃ Ls : List (List (Int × Str)), m__law_lists [.scr ns, .lst (fs.map encF), .lst (rg.map encS), .int a, .int b] = some (.lst (Ls.map encL)) ∧ (0 < Ls.length ∧ Ls.length ≤ 50000) ∧ ∀ l ∈ Ls, LOk l := by
  obtain ⟨zs, z1, z2, z3⟩ := digits_ok ns (at_ := 9) (count := 5) (by omega) (by omega)
  obtain ⟨y0, hy0, _⟩ := atI_mapD (f := D.int) (xs := zs) (i := 0) (by omega) (by omega)
  obtain ⟨y1, hy1, _⟩ := atI_mapD (f := D.int) (xs := zs) (i := 1) (by omega) (by omega)
  obtain ⟨y2, hy2, _⟩ := atI_mapD (f := D.int) (xs := zs) (i := 2) (by omega) (by omega)
  obtain ⟨p, hp⟩ : ∃ p : Int, p = y0 % (rg.length : Int) := ⟨_, rfl⟩
  have p1 : 0 ≤ p := by rw [hp]; exact Int.emod_nonneg _ (by omega)
  have p2 : p < rg.length := by rw [hp]; exact Int.emod_lt_of_pos _ (by omega)
  obtain ⟨q, hq⟩ : ∃ q : Int, q = (p + 1) % (rg.length : Int) := ⟨_, rfl⟩
  have q1 : 0 ≤ q := by rw [hq]; exact Int.emod_nonneg _ (by omega)
  have q2 : q < rg.length := by rw [hq]; exact Int.emod_lt_of_pos _ (by omega)
  have hR : (0 : Int) < rg.length := by omega
  have hM : (0 : Int) < fs.length := by omega
  have hRn : ¬ rg = [] := fun z => by rw [z] at hR; exact absurd hR (by decide)

  obtain ⟨s, hs, hs2⟩ := atI_mapD (f := encS) (xs := rg) p1 p2
  obtain ⟨t, ht, ht2⟩ := atI_mapD (f := encS) (xs := rg) q1 q2
  have sin := List.mem_of_getElem? hs2
  have tin := List.mem_of_getElem? ht2
  have so1 := so s sin
  obtain ⟨sd, hsd, hsd2⟩ : ∃ sd : Str, (sd = if s.2 = "low" then "high" else "low") ∧ PyData.strOk sd = true := ⟨_, rfl, by split; exact ok_high; exact ok_low⟩
  obtain ⟨ox, hox, hox2⟩ := pick6 (a := .str "High") (b := .str "LOW") (c := .str "") (d := .str "hi") (e := .str "low ") (f := .str "highest") (r := y1 % 6) ⟨Int.emod_nonneg _ (by decide), Int.emod_lt_of_pos _ (by decide)⟩
  obtain ⟨od, rfl, hod⟩ : ∃ o : Str, ox = .str o ∧ PyData.strOk o = true := by
    rcases hox2 with rfl | rfl | rfl | rfl | rfl | rfl <;> exact ⟨_, rfl, by decide +kernel⟩
  obtain ⟨bf, hbf⟩ : ∃ x, x = cutG rg none (some p) := ⟨_, rfl⟩
  obtain ⟨bh, hbh⟩ : ∃ x, x = cutG rg (some (p + 1)) none := ⟨_, rfl⟩
  obtain ⟨ini, hini⟩ : ∃ x, x = cutG rg none (some (-1)) := ⟨_, rfl⟩
  obtain ⟨tl, htl⟩ : ∃ x, x = cutG rg (some 1) none := ⟨_, rfl⟩
  obtain ⟨hd, hhd⟩ : ∃ x, x = cutG rg none (some 1) := ⟨_, rfl⟩
  have bf1 : bf.length ≤ 60 := by rw [hbf]; exact Nat.le_trans cutG_len hr.2
  have bh1 : bh.length ≤ 60 := by rw [hbh]; exact Nat.le_trans cutG_len hr.2
  have ini1 : ini.length ≤ 60 := by rw [hini]; exact Nat.le_trans cutG_len hr.2
  have tl1 : tl.length ≤ 60 := by rw [htl]; exact Nat.le_trans cutG_len hr.2
  have hd1 : hd.length ≤ 60 := by rw [hhd]; exact Nat.le_trans cutG_len hr.2
  have bf2 : SOk bf := by rw [hbf]; exact so.cut
  have bh2 : SOk bh := by rw [hbh]; exact so.cut
  have ini2 : SOk ini := by rw [hini]; exact so.cut
  have tl2 : SOk tl := by rw [htl]; exact so.cut
  have hd2 : SOk hd := by rw [hhd]; exact so.cut
  have xp := ixN_pos (n := rg.length) (i := p) ⟨p1, p2⟩
  have xq := ixN_pos (n := rg.length) (i := q) ⟨q1, q2⟩
  obtain ⟨wa, wa1, wa2, wa3⟩ := walk_ok ns fs a hl.2
  obtain ⟨wb, wb1, wb2, wb3⟩ := walk_ok ns fs b hl.2
  suffices main : ∃ d, run (b__law_lists (eL ns fs rg a b .un .un .un .un .un .un .un .un .un .un .un .un .un .un .un)) = some d ∧ ∃ Ls : List (List (Int × Str)), d = .lst (Ls.map encL) ∧ (0 < Ls.length ∧ Ls.length ≤ 50000) ∧ ∀ l ∈ Ls, LOk l by
    obtain ⟨d, g1, Ls, rfl, g2⟩ := main
    exact ⟨Ls, g1, g2⟩
  suffices fin : ∃ Ls : List (List (Int × Str)), run (b__law_lists (eL ns fs rg a b .un .un .un .un .un .un .un .un .un .un .un .un .un .un .un)) = some (.lst (Ls.map encL)) ∧ (0 < Ls.length ∧ Ls.length ≤ 50000) ∧ ∀ l ∈ Ls, LOk l by
    obtain ⟨Ls, g1, g2⟩ := fin
    exact ⟨_, g1, Ls, rfl, g2⟩
  unfold b__law_lists
  rw [seq_nx (eL ns fs rg a b (.fz (.int (fs.length : Int))) .un .un .un .un .un .un .un .un .un .un .un .un .un .un) (by simp [eL])]
  rw [seq_nx (eL ns fs rg a b (.fz (.int (fs.length : Int))) (.fz (.lst (zs.map .int))) .un .un .un .un .un .un .un .un .un .un .un .un .un) (by simp [eL, z1])]
  rw [seq_nx (eL ns fs rg a b (.fz (.int (fs.length : Int))) (.fz (.lst (zs.map .int))) (.fz (.int p)) .un .un .un .un .un .un .un .un .un .un .un .un) (by simp [eL, hy0, hRn, hp])]
  rw [seq_nx (eL ns fs rg a b (.fz (.int (fs.length : Int))) (.fz (.lst (zs.map .int))) (.fz (.int p)) (.fz (.int q)) .un .un .un .un .un .un .un .un .un .un .un) (by simp [eL, hRn, hq])]
  rw [seq_nx (eL ns fs rg a b (.fz (.int (fs.length : Int))) (.fz (.lst (zs.map .int))) (.fz (.int p)) (.fz (.int q)) (.fz (.lst (bf.map encS))) .un .un .un .un .un .un .un .un .un .un) (by simp [eL, cutD_map, hbf])]
  rw [seq_nx (eL ns fs rg a b (.fz (.int (fs.length : Int))) (.fz (.lst (zs.map .int))) (.fz (.int p)) (.fz (.int q)) (.fz (.lst (bf.map encS))) (.fz (encS s)) .un .un .un .un .un .un .un .un .un) (by simp [eL, hs])]
  rw [seq_nx (eL ns fs rg a b (.fz (.int (fs.length : Int))) (.fz (.lst (zs.map .int))) (.fz (.int p)) (.fz (.int q)) (.fz (.lst (bf.map encS))) (.fz (encS s)) (.fz (.lst (bh.map encS))) .un .un .un .un .un .un .un .un) (by simp [eL, cutD_map, hbh])]
  rw [seq_nx (eL ns fs rg a b (.fz (.int (fs.length : Int))) (.fz (.lst (zs.map .int))) (.fz (.int p)) (.fz (.int q)) (.fz (.lst (bf.map encS))) (.fz (encS s)) (.fz (.lst (bh.map encS))) (.fz (.str sd)) .un .un .un .un .un .un .un) (by 
    rw [hsd]
    by_cases z : s.2 = "low"
    · simp [eL, encS, z]
    · simp [eL, encS, z])]
  rw [seq_nx (eL ns fs rg a b (.fz (.int (fs.length : Int))) (.fz (.lst (zs.map .int))) (.fz (.int p)) (.fz (.int q)) (.fz (.lst (bf.map encS))) (.fz (encS s)) (.fz (.lst (bh.map encS))) (.fz (.str sd)) (.fz (.str od)) .un .un .un .un .un .un) (by simp [eL, hy1, hox])]
  rw [seq_nx (eL ns fs rg a b (.fz (.int (fs.length : Int))) (.fz (.lst (zs.map .int))) (.fz (.int p)) (.fz (.int q)) (.fz (.lst (bf.map encS))) (.fz (encS s)) (.fz (.lst (bh.map encS))) (.fz (.str sd)) (.fz (.str od)) (.ow ([rg, rg, ini, tl, [], hd, bh ++ bf, bh ++ bf ++ [s]].map encL)) .un .un .un .un .un) (by simp [eL, cutD_map, encL, hini.symm, htl.symm, hhd.symm, show bh.length + bf.length ≤ 100000 by omega, show bh.length + bf.length ≤ 99999 by omega])]
  rw [seq_nx (eL ns fs rg a b (.fz (.int (fs.length : Int))) (.fz (.lst (zs.map .int))) (.fz (.int p)) (.fz (.int q)) (.fz (.lst (bf.map encS))) (.fz (encS s)) (.fz (.lst (bh.map encS))) (.fz (.str sd)) (.fz (.str od)) (.ow ([rg, rg, ini, tl, [], hd, bh ++ bf, bh ++ bf ++ [s]].map encL)) (.fz (.lst ([(s.1, sd), (s.1, od), (y2 % (fs.length : Int), s.2), (y2 % (fs.length : Int), sd)].map encS))) .un .un .un .un) (by simp [eL, encS, hy2, hl.1])]
  rw [seq_nx (eL ns fs rg a b (.fz (.int (fs.length : Int))) (.fz (.lst (zs.map .int))) (.fz (.int p)) (.fz (.int q)) (.fz (.lst (bf.map encS))) (.fz (encS s)) (.fz (.lst (bh.map encS))) (.fz (.str sd)) (.fz (.str od)) (.ow ([rg, rg, ini, tl, [], hd, bh ++ bf, bh ++ bf ++ [s]].map encL)) (.fz (.lst ([(s.1, sd), (s.1, od), (y2 % (fs.length : Int), s.2), (y2 % (fs.length : Int), sd), (s.1 - fs.length, s.2), (s.1 + fs.length, s.2), ((fs.length : Int), sd), (-1, s.2), (-1, sd)].map encS))) .un .un .un .un) (by simp [eL, encS])]
  obtain ⟨os, hos, hol, hok⟩ : ∃ os : List (Int × Str), os = [(s.1, sd), (s.1, od), (y2 % (fs.length : Int), s.2), (y2 % (fs.length : Int), sd), (s.1 - fs.length, s.2), (s.1 + fs.length, s.2), ((fs.length : Int), sd), (-1, s.2), (-1, sd)] ∧ os.length = 9 ∧ SOk os := by
    refine ⟨_, rfl, rfl, ?_⟩
    exact all_cons hsd2 (all_cons hod (all_cons so1 (all_cons hsd2 (all_cons so1 (all_cons so1 (all_cons hsd2 (all_cons so1 (all_cons hsd2 all_nil))))))))
  rw [← hos]
  obtain ⟨E1, f1, Ls, t16, rfl, g1, g2⟩ := runFor_ex (mg := gM 16) (mb := (mApp 14 (mList (fun E => ((mList (fun E => ((mVarT 9) E).bind fun x => ((mList (mLst (mCons (mVar 16) mNil))) E).bind fun y => catD x y)) E).bind fun x => ((mVarT 11) E).bind fun y => catD x y)))) (fun j E => ∃ (Ls : List (List (Int × Str))) (t16 : Sl), E = eL ns fs rg a b (.fz (.int (fs.length : Int))) (.fz (.lst (zs.map .int))) (.fz (.int p)) (.fz (.int q)) (.fz (.lst (bf.map encS))) (.fz (encS s)) (.fz (.lst (bh.map encS))) (.fz (.str sd)) (.fz (.str od)) (.ow (Ls.map encL)) (.fz (.lst (os.map encS))) t16 .un .un .un ∧ Ls.length = 8 + j ∧ ∀ l ∈ Ls, LOk l) (os.map encS) (eL ns fs rg a b (.fz (.int (fs.length : Int))) (.fz (.lst (zs.map .int))) (.fz (.int p)) (.fz (.int q)) (.fz (.lst (bf.map encS))) (.fz (encS s)) (.fz (.lst (bh.map encS))) (.fz (.str sd)) (.fz (.str od)) (.ow ([rg, rg, ini, tl, [], hd, bh ++ bf, bh ++ bf ++ [s]].map encL)) (.fz (.lst (os.map encS))) .un .un .un .un) ⟨_, _, rfl, rfl, (by
    have l1 : LOk rg := ⟨by omega, so⟩
    exact all_cons l1 (all_cons l1 (all_cons ⟨by omega, ini2⟩ (all_cons ⟨by omega, tl2⟩ (all_cons ⟨by decide, SOk.nil⟩ (all_cons ⟨by omega, hd2⟩ (all_cons (LOk.app bh2 bf2 (by omega)) (all_cons (LOk.app (bh2.app bf2) (SOk.one so1) (by rw [List.length_append, List.length_singleton]; omega)) all_nil))))))))⟩ (by
    rintro j x E hj ⟨Ls, t16, rfl, g1, g2⟩
    obtain ⟨o, rfl, ho⟩ := map_at hj
    have jl := (List.getElem?_eq_some_iff.mp ho).1
    refine ⟨_, eL ns fs rg a b (.fz (.int (fs.length : Int))) (.fz (.lst (zs.map .int))) (.fz (.int p)) (.fz (.int q)) (.fz (.lst (bf.map encS))) (.fz (encS s)) (.fz (.lst (bh.map encS))) (.fz (.str sd)) (.fz (.str od)) (.ow ((Ls ++ [bf ++ [o] ++ bh]).map encL)) (.fz (.lst (os.map encS))) (.fz (encS o)) .un .un .un, rfl, ?_, _, _, rfl, by rw [List.length_append, List.length_singleton]; omega, all_app g2 (all_cons (LOk.app (bf2.app (SOk.one (hok o (List.mem_of_getElem? ho)))) bh2 (by rw [List.length_append, List.length_singleton]; omega)) all_nil)⟩
    simp [eL, encL, show bf.length ≤ 99999 by omega, show bf.length + 1 + bh.length ≤ 100000 by omega, show Ls.length < 100000 by omega])
  rw [List.length_map, hol] at g1
  rw [seq_nx (eL ns fs rg a b (.fz (.int (fs.length : Int))) (.fz (.lst (zs.map .int))) (.fz (.int p)) (.fz (.int q)) (.fz (.lst (bf.map encS))) (.fz (encS s)) (.fz (.lst (bh.map encS))) (.fz (.str sd)) (.fz (.str od)) (.ow (Ls.map encL)) (.fz (.lst (os.map encS))) t16 .un .un .un) (by
    show ((some (os.map encS)).bind _) = _
    exact f1)]
  rw [seq_nx (eL ns fs rg a b (.fz (.int (fs.length : Int))) (.fz (.lst (zs.map .int))) (.fz (.int p)) (.fz (.int q)) (.fz (.lst (bf.map encS))) (.fz (encS s)) (.fz (.lst (bh.map encS))) (.fz (.str sd)) (.fz (.str od)) (.ow (Ls.map encL)) (.fz (.lst (os.map encS))) t16 (.ow (rg.map encS)) .un .un) (by simp [eL])]
  rw [seq_nx (eL ns fs rg a b (.fz (.int (fs.length : Int))) (.fz (.lst (zs.map .int))) (.fz (.int p)) (.fz (.int q)) (.fz (.lst (bf.map encS))) (.fz (encS s)) (.fz (.lst (bh.map encS))) (.fz (.str sd)) (.fz (.str od)) (.ow (Ls.map encL)) (.fz (.lst (os.map encS))) t16 (.ow ((rg.set p.toNat t).map encS)) .un .un) (by simp [eL, ht, xp, List.map_set])]
  rw [seq_nx (eL ns fs rg a b (.fz (.int (fs.length : Int))) (.fz (.lst (zs.map .int))) (.fz (.int p)) (.fz (.int q)) (.fz (.lst (bf.map encS))) (.fz (encS s)) (.fz (.lst (bh.map encS))) (.fz (.str sd)) (.fz (.str od)) (.ow (Ls.map encL)) (.fz (.lst (os.map encS))) t16 (.ow (((rg.set p.toNat t).set q.toNat s).map encS)) .un .un) (by simp [eL, hs, xq, List.map_set])]
  obtain ⟨sw, hsw, swl, swo⟩ : ∃ sw, sw = (rg.set p.toNat t).set q.toNat s ∧ sw.length ≤ 60 ∧ SOk sw := by
    refine ⟨_, rfl, by rw [List.length_set, List.length_set]; exact hr.2, fun u hu => ?_⟩
    rcases List.mem_or_eq_of_mem_set hu with w | w
    · rcases List.mem_or_eq_of_mem_set w with w | w
      · exact so u w
      · rw [w]
        exact so t tin
    · rw [w]
      exact so1
  rw [← hsw]
  rw [seq_nx (eL ns fs rg a b (.fz (.int (fs.length : Int))) (.fz (.lst (zs.map .int))) (.fz (.int p)) (.fz (.int q)) (.fz (.lst (bf.map encS))) (.fz (encS s)) (.fz (.lst (bh.map encS))) (.fz (.str sd)) (.fz (.str od)) (.ow ((Ls ++ [bf ++ bh, bf ++ [s, s] ++ bh, sw, rg ++ rg, rg ++ hd, rg.reverse]).map encL)) (.fz (.lst (os.map encS))) t16 (.fz (.lst (sw.map encS))) .un .un) (by simp [eL, cutD_map, encL, hhd.symm, show bf.length + bh.length ≤ 100000 by omega, show bf.length ≤ 99998 by omega, show bf.length + 2 + bh.length ≤ 100000 by omega, show rg.length + rg.length ≤ 100000 by omega, show rg.length + hd.length ≤ 100000 by omega, show Ls.length ≤ 99994 by omega])]
  obtain ⟨Lm, hLm, lml, lmo⟩ : ∃ Lm, Lm = Ls ++ [bf ++ bh, bf ++ [s, s] ++ bh, sw, rg ++ rg, rg ++ hd, rg.reverse] ∧ Lm.length = 23 ∧ ∀ l ∈ Lm, LOk l := ⟨_, rfl, by simp; omega, all_app g2 (all_cons (LOk.app bf2 bh2 (by omega)) (all_cons (LOk.app (bf2.app (all_cons so1 (all_cons so1 all_nil))) bh2 (by simp; omega)) (all_cons ⟨by omega, swo⟩ (all_cons (LOk.app so so (by omega)) (all_cons (LOk.app so hd2 (by omega)) (all_cons ⟨by rw [List.length_reverse]; omega, fun u hu => so u (List.mem_reverse.mp hu)⟩ all_nil))))))⟩
  rw [← hLm]
  rw [seq_nx (eL ns fs rg a b (.fz (.int (fs.length : Int))) (.fz (.lst (zs.map .int))) (.fz (.int p)) (.fz (.int q)) (.fz (.lst (bf.map encS))) (.fz (encS s)) (.fz (.lst (bh.map encS))) (.fz (.str sd)) (.fz (.str od)) (.ow ((Lm ++ [wa, ini ++ wb]).map encL)) (.fz (.lst (os.map encS))) t16 (.fz (.lst (sw.map encS))) .un .un) (by simp [eL, cutD_map, encL, hini.symm, wa1, wb1, show ini.length + wb.length ≤ 100000 by omega, show Lm.length ≤ 99998 by omega])]
  obtain ⟨Lt, hLt, ltl, lto⟩ : ∃ Lt, Lt = Lm ++ [wa, ini ++ wb] ∧ Lt.length = 25 ∧ ∀ l ∈ Lt, LOk l := by
    exact ⟨_, rfl, by simp; omega, all_app lmo (all_cons ⟨by omega, wa3⟩ (all_cons (LOk.app ini2 wb3 (by omega)) all_nil))⟩
  rw [← hLt]
  suffices fin : ∃ d, run (mSeq (mFor _ _ _) (mRetO 14) (eL ns fs rg a b (.fz (.int (fs.length : Int))) (.fz (.lst (zs.map .int))) (.fz (.int p)) (.fz (.int q)) (.fz (.lst (bf.map encS))) (.fz (encS s)) (.fz (.lst (bh.map encS))) (.fz (.str sd)) (.fz (.str od)) (.ow (Lt.map encL)) (.fz (.lst (os.map encS))) t16 (.fz (.lst (sw.map encS))) .un .un)) = some d ∧ ∃ Ls : List (List (Int × Str)), d = .lst (Ls.map encL) ∧ (0 < Ls.length ∧ Ls.length ≤ 50000) ∧ ∀ l ∈ Ls, LOk l by
    obtain ⟨d, g1, Ls, rfl, g2⟩ := fin
    exact ⟨Ls, g1, g2⟩
  have zc : (cutG zs (some 3) none).length = 2 := by
    rw [cutG_from (by omega), List.length_drop]
    omega
  refine mat_find (fun j E => ∃ (Ls : List (List (Int × Str))) (t18 t19 : Sl), E = eL ns fs rg a b (.fz (.int (fs.length : Int))) (.fz (.lst (zs.map .int))) (.fz (.int p)) (.fz (.int q)) (.fz (.lst (bf.map encS))) (.fz (encS s)) (.fz (.lst (bh.map encS))) (.fz (.str sd)) (.fz (.str od)) (.ow (Ls.map encL)) (.fz (.lst (os.map encS))) t16 (.fz (.lst (sw.map encS))) t18 t19 ∧ (0 < Ls.length ∧ Ls.length ≤ 25 + 4 * j) ∧ ∀ l ∈ Ls, LOk l) _ ((cutG zs (some 3) none).map .int) (by simp [eL, cutD_map]) ⟨_, _, _, rfl, by omega, lto⟩ ?_ ?_
  · rintro j x E hj ⟨Ls, t18, t19, rfl, g3, g4⟩
    obtain ⟨z, rfl, hz⟩ := map_at hj
    have jl := (List.getElem?_eq_some_iff.mp hz).1
    obtain ⟨k, hk⟩ : ∃ k : Int, k = z % (fs.length : Int) := ⟨_, rfl⟩
    have k1 : 0 ≤ k := by rw [hk]; exact Int.emod_nonneg _ (by omega)
    have k2 : k < fs.length := by rw [hk]; exact Int.emod_lt_of_pos _ (by omega)
    obtain ⟨f, hf, _⟩ := atI_mapD (f := encF) (xs := fs) k1 k2
    obtain ⟨u1, v1, w1, x1⟩ := detour_ok fs rg k ⟨k1, k2⟩ hx (by omega) so
    obtain ⟨u2, v2, w2, x2⟩ := detour_ok fs ini k ⟨k1, k2⟩ (fun s hs => hx s (by rw [hini] at hs; exact cutG_mem hs)) (by omega) ini2
    have hl2 : LOk [(k, ("high" : Str)), (k, ("low" : Str))] := ⟨by show 2 ≤ 1000; omega, all_cons ok_high (all_cons ok_low all_nil)⟩
    have lh2 : LOk [(k, ("low" : Str)), (k, ("high" : Str))] := ⟨by show 2 ≤ 1000; omega, all_cons ok_low (all_cons ok_high all_nil)⟩
    refine ⟨_, rfl, .inl ?_⟩
    by_cases hn : f.lo.isSome = true ∧ f.hi.isSome = true
    · have n1 : isN (oD f.lo) = false := by rw [isN_oD]; cases h : f.lo <;> simp [h] at hn ⊢
      have n2 : isN (oD f.hi) = false := by rw [isN_oD]; cases h : f.hi <;> simp [h] at hn ⊢
      refine ⟨eL ns fs rg a b (.fz (.int (fs.length : Int))) (.fz (.lst (zs.map .int))) (.fz (.int p)) (.fz (.int q)) (.fz (.lst (bf.map encS))) (.fz (encS s)) (.fz (.lst (bh.map encS))) (.fz (.str sd)) (.fz (.str od)) (.ow ((Ls ++ [u1, u2, [(k, ("high" : Str)), (k, ("low" : Str))], [(k, ("low" : Str)), (k, ("high" : Str))]]).map encL)) (.fz (.lst (os.map encS))) t16 (.fz (.lst (sw.map encS))) (.fz (.int z)) (.fz (.int k)), ?_, _, _, _, rfl, ⟨by rw [List.length_append]; omega, by rw [List.length_append]; simp only [List.length_cons, List.length_nil]; omega⟩, all_app g4 (all_cons ⟨by omega, x1⟩ (all_cons ⟨by omega, x2⟩ (all_cons hl2 (all_cons lh2 all_nil))))⟩
      simp [-isN, eL, hl.1, hk.symm, hf, encF, n1, n2, v1, v2, cutD_map, hini.symm, encL, encS_p, show Ls.length < 100000 by omega, show Ls.length + 1 < 100000 by omega, show Ls.length + 2 < 100000 by omega, show Ls.length + 3 < 100000 by omega, show Ls.length + 1 + 1 < 100000 by omega, show Ls.length + 1 + 1 + 1 < 100000 by omega]
    · have n3 : isN (oD f.lo) = true ∨ isN (oD f.lo) = false ∧ isN (oD f.hi) = true := by
        rw [isN_oD, isN_oD]
        cases h1 : f.lo <;> cases h2 : f.hi <;> simp [h1, h2] at hn ⊢
      refine ⟨eL ns fs rg a b (.fz (.int (fs.length : Int))) (.fz (.lst (zs.map .int))) (.fz (.int p)) (.fz (.int q)) (.fz (.lst (bf.map encS))) (.fz (encS s)) (.fz (.lst (bh.map encS))) (.fz (.str sd)) (.fz (.str od)) (.ow ((Ls ++ [[(k, ("high" : Str)), (k, ("low" : Str))], [(k, ("low" : Str)), (k, ("high" : Str))]]).map encL)) (.fz (.lst (os.map encS))) t16 (.fz (.lst (sw.map encS))) (.fz (.int z)) (.fz (.int k)), ?_, _, _, _, rfl, ⟨by rw [List.length_append]; omega, by rw [List.length_append]; simp only [List.length_cons, List.length_nil]; omega⟩, all_app g4 (all_cons hl2 (all_cons lh2 all_nil))⟩
      rcases n3 with n1 | ⟨n1, n2⟩
      · simp [-isN, eL, hl.1, hk.symm, hf, encF, n1, encL, encS_p, show Ls.length < 100000 by omega, show Ls.length + 1 < 100000 by omega, show Ls.length + 2 < 100000 by omega, show Ls.length + 3 < 100000 by omega, show Ls.length + 1 + 1 < 100000 by omega, show Ls.length + 1 + 1 + 1 < 100000 by omega]
      · simp [-isN, eL, hl.1, hk.symm, hf, encF, n1, n2, encL, encS_p, show Ls.length < 100000 by omega, show Ls.length + 1 < 100000 by omega, show Ls.length + 2 < 100000 by omega, show Ls.length + 3 < 100000 by omega, show Ls.length + 1 + 1 < 100000 by omega, show Ls.length + 1 + 1 + 1 < 100000 by omega]
  · rintro E1 ⟨Ls, t18, t19, rfl, g3, g4⟩
    rw [List.length_map, zc] at g3
    exact ⟨_, by simp [run, eL], Ls, rfl, ⟨g3.1, by omega⟩, g4⟩
end Sx

set_option Elab.async false
set_option linter.all false
set_option maxRecDepth 100000
set_option maxHeartbeats 4000000
namespace Sx
open PySem L2
def RingOn (gs : List F) (os : List Int) (rg : List (Int × Str)) : Prop := ∀ (j : Nat) (k : Int) (side : Str), rg[j]? = some (k, side) → ∃ f s e, 0 ≤ k ∧ gs[k.toNat]? = some f ∧ os[j]? = some s ∧ os[(((j : Int) + 1) % (rg.length : Int)).toNat]? = some e ∧
    ((side = "high" ∧ f.a = s ∧ f.b = e ∧ ∃ c, f.hi = some c) ∨ (side = "low" ∧ f.a = e ∧ f.b = s ∧ ∃ c, f.lo = some c))
theorem lstep_hi {gs : List F} {k : Int} {f : F} {c : Int} (h0 : 0 ≤ k) (h : gs[k.toNat]? = some f) (hc : f.hi = some c) : lstep gs (k, "high") = some (f.a, f.b, c) := by
  have hl := (List.getElem?_eq_some_iff.mp h).1
  unfold lstep
  rw [if_neg (by show ¬ k < 0; omega), if_neg (by show ¬ (gs.length : Int) ≤ k; omega)]
  show (match gs[k.toNat]? with | none => none | some f => _) = _
  rw [h]
  show (if ("high" : Str) = "high" then _ else _) = _
  rw [if_pos rfl, hc]
  rfl
theorem lstep_lo {gs : List F} {k : Int} {f : F} {c : Int} (h0 : 0 ≤ k) (h : gs[k.toNat]? = some f) (hc : f.lo = some c) : lstep gs (k, "low") = some (f.b, f.a, 0 - c) := by
  have hl := (List.getElem?_eq_some_iff.mp h).1
  unfold lstep
  rw [if_neg (by show ¬ k < 0; omega), if_neg (by show ¬ (gs.length : Int) ≤ k; omega)]
  show (match gs[k.toNat]? with | none => none | some f => _) = _
  rw [h]
  show (if ("low" : Str) = "high" then _ else if ("low" : Str) = "low" then _ else _) = _
  rw [if_neg (by rw [hilo]; exact fun z => z), if_pos rfl, hc]
  rfl
theorem ring_step {gs : List F} {os : List Int} {rg : List (Int × Str)} (h : RingOn gs os rg) {j : Nat} {s : Int × Str} (hj : rg[j]? = some s) : ∃ x y c, os[j]? = some x ∧ os[(((j : Int) + 1) % (rg.length : Int)).toNat]? = some y ∧ lstep gs s = some (x, y, c) := by
  obtain ⟨k, side⟩ := s
  obtain ⟨f, x, y, h0, h1, h2, h3, ⟨rfl, ha, hb, c, hc⟩ | ⟨rfl, ha, hb, c, hc⟩⟩ := h j k side hj
  · refine ⟨x, y, c, h2, h3, ?_⟩
    rw [lstep_hi h0 h1 hc, ha, hb]
  · refine ⟨x, y, 0 - c, h2, h3, ?_⟩
    rw [lstep_lo h0 h1 hc, ha, hb]
theorem ring_exists {gs : List F} {os : List Int} {rg : List (Int × Str)} (h : RingOn gs os rg) : ∀ s ∈ rg, ∃ a b c, lstep gs s = some (a, b, c) := fun s hs => by
  obtain ⟨j, hj⟩ := List.getElem?_of_mem hs
  obtain ⟨x, y, c, _, _, e⟩ := ring_step h hj
  exact ⟨x, y, c, e⟩
theorem pts_some {gs : List F} : ∀ (ss : List (Int × Str)) (g : Nat → Int), (∀ (j : Nat) (s : Int × Str), ss[j]? = some s → ∃ c, lstep gs s = some (g j, g (j + 1), c)) → ∃ l, pts gs (g 0) ss = some l
  | [], _, _ => ⟨[], rfl⟩
  | s :: ss, g, h => by
    obtain ⟨c, hc⟩ := h 0 s rfl
    obtain ⟨l, hl⟩ := pts_some ss (fun j => g (j + 1)) fun j t ht => h (j + 1) t (by simpa using ht)
    refine ⟨g 1 :: l, ?_⟩
    simp [pts, hc]
    exact hl
theorem ring_chain {gs : List F} {os : List Int} {rg : List (Int × Str)} (h : RingOn gs os rg) (hr : 2 ≤ rg.length) : ∃ l, chainS gs rg = some (l, tot gs rg) := by
  obtain ⟨l, hl⟩ := pts_some (gs := gs) rg (fun j => os.getD (((j : Int) % (rg.length : Int)).toNat) 0) fun j s hs => by
    obtain ⟨x, y, c, hx, hy, e⟩ := ring_step h hs
    have jl := (List.getElem?_eq_some_iff.mp hs).1
    refine ⟨c, ?_⟩
    have e1 : ((j : Int) % (rg.length : Int)).toNat = j := by
      rw [Int.emod_eq_of_lt (by omega) (by omega)]
      omega
    show _ = some (os.getD ((j : Int) % (rg.length : Int)).toNat 0, os.getD (((j + 1 : Nat) : Int) % (rg.length : Int)).toNat 0, c)
    rw [e, e1, List.getD_eq_getElem?_getD, hx, List.getD_eq_getElem?_getD, show ((j + 1 : Nat) : Int) = (j : Int) + 1 by omega, hy]
    rfl
  match rg, hr with
  | s :: ss, _ =>
    obtain ⟨x, y, c, hx, hy, e⟩ := ring_step h (j := 0) rfl
    simp only [chainS, e]
    have e0 : os.getD ((((0 : Nat) : Int) % ((s :: ss).length : Int)).toNat) 0 = x := by
      rw [show (((0 : Nat) : Int) % ((s :: ss).length : Int)).toNat = 0 by simp, List.getD_eq_getElem?_getD, hx]
      rfl
    rw [e0] at hl
    exact ⟨_, by show (pts gs x (s :: ss)).map _ = _; rw [hl]; rfl⟩
theorem ring_set {fs gs : List F} {os : List Int} {rg : List (Int × Str)} (h : RingOn fs os rg) {j0 : Nat} {k : Int} {side : Str} {f g : F} (hj : rg[j0]? = some (k, side)) (hk : 0 ≤ k) (hf : fs[k.toNat]? = some f)
    (dis : ∀ (i j : Nat) (k : Int) (s t : Str), rg[i]? = some (k, s) → rg[j]? = some (k, t) → i = j) (hg : gs[k.toNat]? = some g) (ho : ∀ i, i ≠ k.toNat → gs[i]? = fs[i]?)
    (hga : g.a = f.a) (hgb : g.b = f.b) (hh : side = "high" → ∃ c, g.hi = some c) (hlw : side = "low" → ∃ c, g.lo = some c) : RingOn gs os rg := fun j k' side' hj' => by
  obtain ⟨f', s, e, h0, h1, h2, h3, h4⟩ := h j k' side' hj'
  by_cases q : k' = k
  · subst q
    have := dis j0 j k' side side' hj hj'
    subst this
    rw [hj] at hj'
    cases hj'
    rw [hf] at h1
    cases h1
    refine ⟨g, s, e, h0, hg, h2, h3, ?_⟩
    rcases h4 with ⟨a, b, c, _⟩ | ⟨a, b, c, _⟩
    · exact .inl ⟨a, by rw [hga, b], by rw [hgb, c], hh a⟩
    · exact .inr ⟨a, by rw [hga, b], by rw [hgb, c], hlw a⟩
  · exact ⟨f', s, e, h0, by rw [ho _ (by omega)]; exact h1, h2, h3, h4⟩
end Sx

set_option Elab.async false
set_option linter.all false
set_option maxRecDepth 100000
set_option maxHeartbeats 4000000
namespace Sx
open PySem L2
def eA (ns : List Int) (fs : List F) (rg : List (Int × Str)) (a b : Int) (s5 s6 s7 s8 s9 s10 s11 s12 : Sl) : En := [.fz (.scr ns), .fz (.lst (fs.map encF)), .fz (.lst (rg.map encS)), .fz (.int a), .fz (.int b), s5, s6, s7, s8, s9, s10, s11, s12]
def chg (side : Str) (f : F) (ch : Option Int) : F := if side = "high" then ⟨f.a, f.b, f.lo, ch⟩ else ⟨f.a, f.b, ch.map (0 - ·), f.hi⟩
theorem anew_ok (ns : List Int) (fs : List F) (os : List Int) (rg : List (Int × Str)) (a b : Int) (hr : 2 ≤ rg.length ∧ rg.length ≤ 60) (so : SOk rg) (hx : RingOn fs os rg)
    (dis : ∀ (i j : Nat) (k : Int) (s t : Str), rg[i]? = some (k, s) → rg[j]? = some (k, t) → i = j) :
    m__law_judged_anew [.scr ns, .lst (fs.map encF), .lst (rg.map encS), .int a, .int b] = some (.bl true) := by
  obtain ⟨d, e1, l1, u1⟩ := draw_ok ns (at_ := 10) (k := 0) (size := (rg.length : Int)) (by omega) (by omega) (by omega)
  obtain ⟨⟨k, side⟩, hs, hs2⟩ := atI_mapD (f := encS) (xs := rg) l1 u1
  obtain ⟨f, x0, y0, k0, hf2, _, _, hside⟩ := hx d.toNat k side hs2
  have kl := (List.getElem?_eq_some_iff.mp hf2).1
  have hf : atI (fs.map encF) k = some (encF f) := by
    obtain ⟨x, h1, h2⟩ := atI_mapD (f := encF) (xs := fs) (i := k) k0 (by omega)
    rw [hf2] at h2
    cases h2
    exact h1
  obtain ⟨x1, y1, c, hc⟩ := ring_exists hx (k, side) (List.mem_of_getElem? hs2)
  have st := law_step_ok fs (k, side)
  rw [hc] at st
  obtain ⟨ini, hini⟩ : ∃ x, x = cutG rg none (some (-1)) := ⟨_, rfl⟩
  have ini1 : ini.length ≤ 60 := by rw [hini]; exact Nat.le_trans cutG_len hr.2
  have ini2 : SOk ini := by rw [hini]; exact so.cut
  have hlt : side ≠ "high" → side = "low" := fun z => by
    rcases hside with ⟨h, _⟩ | ⟨h, _⟩
    · exact absurd h z
    · exact h
  show run (b__law_judged_anew (eA ns fs rg a b .un .un .un .un .un .un .un .un)) = _
  unfold b__law_judged_anew
  refine mat_nx (eA ns fs rg a b (.ow (fs.map encF)) .un .un .un .un .un .un .un) (by simp [eA]) ?_
  refine mat_nx (eA ns fs rg a b (.ow (fs.map encF)) (.fz (.lst (rg.map encS))) .un .un .un .un .un .un) (by simp [eA]) ?_
  refine mat_nx (eA ns fs rg a b (.ow (fs.map encF)) (.fz (.lst (rg.map encS))) (.fz (.lst (ini.map encS))) .un .un .un .un .un) (by simp [eA, cutD_map, hini]) ?_
  refine mat_nx (eA ns fs rg a b (.ow (fs.map encF)) (.fz (.lst (rg.map encS))) (.fz (.lst (ini.map encS))) (.fz (encS (k, side))) .un .un .un .un) (by simp [eA, e1, hs]) ?_
  refine mat_nx (eA ns fs rg a b (.ow (fs.map encF)) (.fz (.lst (rg.map encS))) (.fz (.lst (ini.map encS))) (.fz (encS (k, side))) (.fz (encF f)) .un .un .un) (by simp [eA, encS_p, hf]) ?_
  refine mat_nx (eA ns fs rg a b (.ow (fs.map encF)) (.fz (.lst (rg.map encS))) (.fz (.lst (ini.map encS))) (.fz (encS (k, side))) (.fz (encF f)) (.fz (.int c)) .un .un) (by simp [eA, st, oT]) ?_
  refine mat_inv (fun _ E => ∃ (gs : List F) (s11 s12 : Sl), E = eA ns fs rg a b (.ow (gs.map encF)) (.fz (.lst (rg.map encS))) (.fz (.lst (ini.map encS))) (.fz (encS (k, side))) (.fz (encF f)) (.fz (.int c)) s11 s12 ∧ gs.length = fs.length ∧ ∀ i, i ≠ k.toNat → gs[i]? = fs[i]?)
    ([some c, none, some (c + 1), some (c - 1), none, some c].map oD) (by simp [eA, oD]) ⟨fs, _, _, rfl, rfl, fun _ _ => rfl⟩ ?_ ?_
  · rintro j x E hj ⟨gs, s11, s12, rfl, g1, g2⟩
    obtain ⟨ch, rfl, hq⟩ := map_at hj
    have xk := ixN_pos (n := gs.length) (i := k) (by omega)
    obtain ⟨ws, hws⟩ : ∃ ws, ws = gs.set k.toNat (chg side f ch) := ⟨_, rfl⟩
    have wk : ws[k.toNat]? = some (chg side f ch) := by rw [hws, List.getElem?_set_self (by omega)]
    have wo : ∀ i, i ≠ k.toNat → ws[i]? = fs[i]? := fun i hi => by rw [hws, List.getElem?_set_ne (fun z => hi z.symm)]; exact g2 i hi
    have h1 := is_low_ok ws rg (by omega)
    have h2 := low_due_ok ws rg (by omega)
    have h3 := same_ok (lowS ws rg) (lowS ws rg)
    have h4 := is_way_ok ws a b ini (by omega)
    have h5 := way_due_ok ws a b ini (by omega)
    have h6 := same_ok (wayS ws a b ini) (wayS ws a b ini)
    have q1 := eqF ws
    have q2 := eqS so
    have q3 := eqS ini2
    refine ⟨_, eA ns fs rg a b (.ow (ws.map encF)) (.fz (.lst (rg.map encS))) (.fz (.lst (ini.map encS))) (.fz (encS (k, side))) (.fz (encF f)) (.fz (.int c)) (.fz (oD ch)) (.fz (.lst (ws.map encF))), rfl, ?_, ws, _, _, rfl, by rw [hws, List.length_set]; exact g1, wo⟩
    rw [seq_nx (eA ns fs rg a b (.ow (ws.map encF)) (.fz (.lst (rg.map encS))) (.fz (.lst (ini.map encS))) (.fz (encS (k, side))) (.fz (encF f)) (.fz (.int c)) (.fz (oD ch)) s12) (by
      rw [hws]
      by_cases z : side = "high"
      · subst z
        simp [eA, encS_p, encF, xk, chg, List.map_set, oD]
      · have z2 := hlt z
        subst z2
        cases ch with
        | none => simp [eA, encS_p, encF, xk, chg, List.map_set, oD, hilo, z]
        | some u => simp [eA, encS_p, encF, xk, chg, List.map_set, oD, hilo, z])]
    rw [seq_nx (eA ns fs rg a b (.ow (ws.map encF)) (.fz (.lst (rg.map encS))) (.fz (.lst (ini.map encS))) (.fz (encS (k, side))) (.fz (encF f)) (.fz (.int c)) (.fz (oD ch)) (.fz (.lst (ws.map encF)))) (by simp [eA])]
    rw [seq_nx (eA ns fs rg a b (.ow (ws.map encF)) (.fz (.lst (rg.map encS))) (.fz (.lst (ini.map encS))) (.fz (encS (k, side))) (.fz (encF f)) (.fz (.int c)) (.fz (oD ch)) (.fz (.lst (ws.map encF)))) (by simp [eA, h1, h2, h3])]
    rw [seq_nx (eA ns fs rg a b (.ow (ws.map encF)) (.fz (.lst (rg.map encS))) (.fz (.lst (ini.map encS))) (.fz (encS (k, side))) (.fz (encF f)) (.fz (.int c)) (.fz (oD ch)) (.fz (.lst (ws.map encF)))) (by simp [eA, cutD_map, hini.symm, h4, h5, h6])]
    rw [seq_nx (eA ns fs rg a b (.ow (ws.map encF)) (.fz (.lst (rg.map encS))) (.fz (.lst (ini.map encS))) (.fz (encS (k, side))) (.fz (encF f)) (.fz (.int c)) (.fz (oD ch)) (.fz (.lst (ws.map encF)))) (by
      cases ch with
      | none => simp [eA, oD]
      | some u =>
        have ron : RingOn ws os rg := ring_set hx hs2 k0 hf2 dis wk wo (by unfold chg; split <;> rfl) (by unfold chg; split <;> rfl) (fun z => ⟨u, by rw [chg, if_pos z]⟩) (fun z => ⟨0 - u, by rw [chg, if_neg (by rw [z, hilo]; exact fun z => z)]; rfl⟩)
        have c1 := cost_ok ws rg (ring_exists ron) (by omega)
        obtain ⟨l, c2⟩ := ring_chain ron hr.1
        have c3 := chain_ok ws rg (by omega)
        rw [c2] at c3
        simp [eA, oD, c1, c3, oC])]
    simp [-eqB, eA, cutD_map, hini.symm, q1, q2, q3]
  · rintro E1 ⟨gs, s11, s12, rfl, _, _⟩
    simp [eA, run]
end Sx

set_option Elab.async false
set_option linter.all false
set_option maxRecDepth 100000
set_option maxHeartbeats 4000000
namespace Sx
open PySem L2
theorem law_true (ns : List Int) (_ : ns.length ≤ 63) : m_law [.scr ns] = some (.bl true) := by
  obtain ⟨d0, e0, _, _⟩ := draw_ok ns (at_ := 0) (k := 0) (size := 16) (by omega) (by omega) (by omega)
  obtain ⟨large, hlarge⟩ : ∃ l : Bool, l = decide (d0 = 0) := ⟨_, rfl⟩
  obtain ⟨count, os, fs, rg, hfacts, ok⟩ := facts_ok ns large
  have ring : RingOn fs os rg := ok.ring
  have hr : 2 ≤ rg.length ∧ rg.length ≤ 60 := by
    have := ok.rl
    have := ok.cnt
    omega
  have so : SOk rg := fun s hs => by
    obtain ⟨j, hj⟩ := List.getElem?_of_mem hs
    obtain ⟨_, _, _, _, _, _, _, ⟨h, _⟩ | ⟨h, _⟩⟩ := ring j s.1 s.2 hj
    · rw [h]; exact ok_high
    · rw [h]; exact ok_low
  have hl : 0 < fs.length ∧ fs.length ≤ 400 := by
    refine ⟨?_, ok.fl⟩
    obtain ⟨f, _, _, _, h, _⟩ := ring 0 (rg[0]'(by omega)).1 (rg[0]'(by omega)).2 (List.getElem?_eq_getElem (by omega))
    have := (List.getElem?_eq_some_iff.mp h).1
    omega
  obtain ⟨a, ha, _⟩ := atI_mapD (f := D.int) (xs := os) (i := 0) (by omega) (by have := ok.ol; have := ok.cnt; omega)
  obtain ⟨b, hb, _⟩ := atI_mapD (f := D.int) (xs := os) (i := (rg.length : Int) - 1) (by omega) (by have := ok.ol; have := ok.rl; omega)
  obtain ⟨Ls, hLs, hL1, hL2⟩ := lists_ok ns fs rg a b hl hr so (ring_exists ring)
  obtain ⟨d7, e7, l7, u7⟩ := draw_ok ns (at_ := 7) (k := 0) (size := (Ls.length : Int)) (by omega) (by omega) (by omega)
  obtain ⟨L0, hL0, hL3⟩ := atI_mapD (f := encL) (xs := Ls) l7 u7
  have han := anew_ok ns fs os rg a b hr so ring ok.dis
  have hfit := fits_judged_ok ns fs count large ok.cnt hl ok.fr
  obtain ⟨bt, hbt⟩ : ∃ bt : D, bt = .tup [.int count, .lst (os.map .int), .lst (fs.map encF), .lst (rg.map encS)] := ⟨_, rfl⟩
  show run (b_law [.fz (.scr ns), .un, .un, .un, .un, .un, .un, .un, .un]) = _
  unfold b_law
  refine mat_nx [.fz (.scr ns), .fz (.bl large), .un, .un, .un, .un, .un, .un, .un] (by simp [e0, hlarge]) ?_
  refine mat_nx [.fz (.scr ns), .fz (.bl large), .fz bt, .un, .un, .un, .un, .un, .un] (by simp [hfacts, hbt]) ?_
  refine mat_nx [.fz (.scr ns), .fz (.bl large), .fz bt, .fz (.lst (fs.map encF)), .un, .un, .un, .un, .un] (by simp [hbt]) ?_
  refine mat_nx [.fz (.scr ns), .fz (.bl large), .fz bt, .fz (.lst (fs.map encF)), .fz (.lst (rg.map encS)), .un, .un, .un, .un] (by simp [hbt]) ?_
  refine mat_nx [.fz (.scr ns), .fz (.bl large), .fz bt, .fz (.lst (fs.map encF)), .fz (.lst (rg.map encS)), .fz (.int a), .un, .un, .un] (by simp [hbt, ha]) ?_
  refine mat_nx [.fz (.scr ns), .fz (.bl large), .fz bt, .fz (.lst (fs.map encF)), .fz (.lst (rg.map encS)), .fz (.int a), .fz (.int b), .un, .un] (by simp [hbt, hb]) ?_
  refine mat_nx [.fz (.scr ns), .fz (.bl large), .fz bt, .fz (.lst (fs.map encF)), .fz (.lst (rg.map encS)), .fz (.int a), .fz (.int b), .fz (.lst (Ls.map encL)), .un] (by simp [hLs]) ?_
  refine mat_ex (fun E => ∃ Ls : List (List (Int × Str)), E = [.fz (.scr ns), .fz (.bl large), .fz bt, .fz (.lst (fs.map encF)), .fz (.lst (rg.map encS)), .fz (.int a), .fz (.int b), .fz (.lst (Ls.map encL)), .un] ∧ ∀ l ∈ Ls, LOk l) ?_ ?_
  · cases large with
    | false => exact ⟨_, by simp, Ls, rfl, hL2⟩
    | true =>
      refine ⟨[.fz (.scr ns), .fz (.bl true), .fz bt, .fz (.lst (fs.map encF)), .fz (.lst (rg.map encS)), .fz (.int a), .fz (.int b), .fz (.lst ([rg, cutG rg none (some (-1)), L0].map encL)), .un], ?_, _, rfl, ?_⟩
      · simp [cutD_map, e7, hL0, encL]
      · exact all_cons ⟨by omega, so⟩ (all_cons ⟨Nat.le_trans cutG_len (by omega), so.cut⟩ (all_cons (hL2 _ (List.mem_of_getElem? hL3)) all_nil))
  rintro E1 ⟨Lt, rfl, hLt⟩
  refine mat_inv (fun _ E => ∃ s8, E = [.fz (.scr ns), .fz (.bl large), .fz bt, .fz (.lst (fs.map encF)), .fz (.lst (rg.map encS)), .fz (.int a), .fz (.int b), .fz (.lst (Lt.map encL)), s8]) (Lt.map encL) (by simp) ⟨_, rfl⟩ ?_ ?_
  · rintro j x E hj ⟨s8, rfl⟩
    obtain ⟨l, rfl, hq⟩ := map_at hj
    obtain ⟨w1, w2⟩ := hLt l (List.mem_of_getElem? hq)
    have := judged_ok fs a b l w2 (by omega)
    refine ⟨_, [.fz (.scr ns), .fz (.bl large), .fz bt, .fz (.lst (fs.map encF)), .fz (.lst (rg.map encS)), .fz (.int a), .fz (.int b), .fz (.lst (Lt.map encL)), .fz (encL l)], rfl, ?_, _, rfl⟩
    simp [encL, this]
  rintro E1 ⟨s8, rfl⟩
  refine mat_nx [.fz (.scr ns), .fz (.bl large), .fz bt, .fz (.lst (fs.map encF)), .fz (.lst (rg.map encS)), .fz (.int a), .fz (.int b), .fz (.lst (Lt.map encL)), s8] (by simp [han]) ?_
  simp [hbt, hfit, run]
end Sx

namespace Sx
open PySem PySem.Spec PyProof.Rows L2
section
def d_step_parts : He.DefD := ⟨("step_parts", none), "step_parts", "step_parts", defArgs s_step_parts, defBody s_step_parts, defScope s_step_parts, [], []⟩
def d_way_cost : He.DefD := ⟨("way_cost", none), "way_cost", "way_cost", defArgs s_way_cost, defBody s_way_cost, defScope s_way_cost, [], []⟩
def d_step_exists : He.DefD := ⟨("step_exists", none), "step_exists", "step_exists", defArgs s_step_exists, defBody s_step_exists, defScope s_step_exists, [], []⟩
def d__points_on : He.DefD := ⟨("_points_on", none), "_points_on", "_points_on", defArgs s__points_on, defBody s__points_on, defScope s__points_on, [], []⟩
def d_is_way : He.DefD := ⟨("is_way", none), "is_way", "is_way", defArgs s_is_way, defBody s_is_way, defScope s_is_way, [], []⟩
def d_is_low_ring : He.DefD := ⟨("is_low_ring", none), "is_low_ring", "is_low_ring", defArgs s_is_low_ring, defBody s_is_low_ring, defScope s_is_low_ring, [], []⟩
def d_fits_facts : He.DefD := ⟨("fits_facts", none), "fits_facts", "fits_facts", defArgs s_fits_facts, defBody s_fits_facts, defScope s_fits_facts, [], []⟩
def d__law_cell : He.DefD := ⟨("_law_cell", none), "_law_cell", "_law_cell", defArgs s__law_cell, defBody s__law_cell, defScope s__law_cell, [], []⟩
def d__law_draw : He.DefD := ⟨("_law_draw", none), "_law_draw", "_law_draw", defArgs s__law_draw, defBody s__law_draw, defScope s__law_draw, [], []⟩
def d__law_digits : He.DefD := ⟨("_law_digits", none), "_law_digits", "_law_digits", defArgs s__law_digits, defBody s__law_digits, defScope s__law_digits, [], []⟩
def d__law_order : He.DefD := ⟨("_law_order", none), "_law_order", "_law_order", defArgs s__law_order, defBody s__law_order, defScope s__law_order, [], []⟩
def d__law_bound : He.DefD := ⟨("_law_bound", none), "_law_bound", "_law_bound", defArgs s__law_bound, defBody s__law_bound, defScope s__law_bound, [], []⟩
def d__law_ring_facts : He.DefD := ⟨("_law_ring_facts", none), "_law_ring_facts", "_law_ring_facts", defArgs s__law_ring_facts, defBody s__law_ring_facts, defScope s__law_ring_facts, [], []⟩
def d__law_extra : He.DefD := ⟨("_law_extra", none), "_law_extra", "_law_extra", defArgs s__law_extra, defBody s__law_extra, defScope s__law_extra, [], []⟩
def d__law_facts : He.DefD := ⟨("_law_facts", none), "_law_facts", "_law_facts", defArgs s__law_facts, defBody s__law_facts, defScope s__law_facts, [], []⟩
def d__law_step : He.DefD := ⟨("_law_step", none), "_law_step", "_law_step", defArgs s__law_step, defBody s__law_step, defScope s__law_step, [], []⟩
def d__law_chain : He.DefD := ⟨("_law_chain", none), "_law_chain", "_law_chain", defArgs s__law_chain, defBody s__law_chain, defScope s__law_chain, [], []⟩
def d__law_unlike : He.DefD := ⟨("_law_unlike", none), "_law_unlike", "_law_unlike", defArgs s__law_unlike, defBody s__law_unlike, defScope s__law_unlike, [], []⟩
def d__law_way_due : He.DefD := ⟨("_law_way_due", none), "_law_way_due", "_law_way_due", defArgs s__law_way_due, defBody s__law_way_due, defScope s__law_way_due, [], []⟩
def d__law_low_due : He.DefD := ⟨("_law_low_due", none), "_law_low_due", "_law_low_due", defArgs s__law_low_due, defBody s__law_low_due, defScope s__law_low_due, [], []⟩
def d__law_detour : He.DefD := ⟨("_law_detour", none), "_law_detour", "_law_detour", defArgs s__law_detour, defBody s__law_detour, defScope s__law_detour, [], []⟩
def d__law_walk : He.DefD := ⟨("_law_walk", none), "_law_walk", "_law_walk", defArgs s__law_walk, defBody s__law_walk, defScope s__law_walk, [], []⟩
def d__law_lists : He.DefD := ⟨("_law_lists", none), "_law_lists", "_law_lists", defArgs s__law_lists, defBody s__law_lists, defScope s__law_lists, [], []⟩
def d__law_is_number : He.DefD := ⟨("_law_is_number", none), "_law_is_number", "_law_is_number", defArgs s__law_is_number, defBody s__law_is_number, defScope s__law_is_number, [], []⟩
def d__law_same : He.DefD := ⟨("_law_same", none), "_law_same", "_law_same", defArgs s__law_same, defBody s__law_same, defScope s__law_same, [], []⟩
def d__law_steps_judged : He.DefD := ⟨("_law_steps_judged", none), "_law_steps_judged", "_law_steps_judged", defArgs s__law_steps_judged, defBody s__law_steps_judged, defScope s__law_steps_judged, [], []⟩
def d__law_judged_anew : He.DefD := ⟨("_law_judged_anew", none), "_law_judged_anew", "_law_judged_anew", defArgs s__law_judged_anew, defBody s__law_judged_anew, defScope s__law_judged_anew, [], []⟩
def d__law_fits_due : He.DefD := ⟨("_law_fits_due", none), "_law_fits_due", "_law_fits_due", defArgs s__law_fits_due, defBody s__law_fits_due, defScope s__law_fits_due, [], []⟩
def d__law_tight : He.DefD := ⟨("_law_tight", none), "_law_tight", "_law_tight", defArgs s__law_tight, defBody s__law_tight, defScope s__law_tight, [], []⟩
def d__law_fits_judged : He.DefD := ⟨("_law_fits_judged", none), "_law_fits_judged", "_law_fits_judged", defArgs s__law_fits_judged, defBody s__law_fits_judged, defScope s__law_fits_judged, [], []⟩
def d_law : He.DefD := ⟨("law", none), "law", "law", defArgs s_law, defBody s_law, defScope s_law, [], []⟩
def fnL : List He.DefD := [d_step_parts, d_way_cost, d_step_exists, d__points_on, d_is_way, d_is_low_ring, d_fits_facts, d__law_cell, d__law_draw, d__law_digits, d__law_order, d__law_bound, d__law_ring_facts, d__law_extra, d__law_facts, d__law_step, d__law_chain, d__law_unlike, d__law_way_due, d__law_low_due, d__law_detour, d__law_walk, d__law_lists, d__law_is_number, d__law_same, d__law_steps_judged, d__law_judged_anew, d__law_fits_due, d__law_tight, d__law_fits_judged, d_law]
def faL : List He.Fa := [.glo "step_parts", .glo "way_cost", .glo "step_exists", .glo "_points_on", .glo "is_way", .glo "is_low_ring", .glo "fits_facts", .glo "_law_cell", .glo "_law_draw", .glo "_law_digits", .glo "_law_order", .glo "_law_bound", .glo "_law_ring_facts", .glo "_law_extra", .glo "_law_facts", .glo "_law_step", .glo "_law_chain", .glo "_law_unlike", .glo "_law_way_due", .glo "_law_low_due", .glo "_law_detour", .glo "_law_walk", .glo "_law_lists", .glo "_law_is_number", .glo "_law_same", .glo "_law_steps_judged", .glo "_law_judged_anew", .glo "_law_fits_due", .glo "_law_tight", .glo "_law_fits_judged", .glo "law", .free "sum", .free "len", .free "set", .free "int", .free "range", .free "min", .free "sorted", .free "list", .free "isinstance", .free "bool"]
abbrev RR : PySem.W.OpenRow := PySem.W.OpenLaw.row PySem.Challenge.rw_surelyseen_k04_ways_judged
abbrev hkL : PySem.W.Hook := He.hookD 4 faL fnL
def obL (s : PySem.W.SharedT) : He.AlD := He.obsDG 4 faL fnL (HandSHeadRun.getT s)
theorem obL_eq (s : PySem.W.SharedT) : obL s = hkL.obs s.abs := He.obsDG_eq (HandSHeadRun.getT_eq s)
def looseL : List PySem.Str := ["way_cost", "is_way", "is_low_ring", "fits_facts", "step_exists", "step_parts", "_points_on", "_law_cell", "_law_draw", "_law_digits", "_law_order", "_law_bound", "_law_ring_facts", "_law_extra", "_law_facts", "_law_step", "_law_chain", "_law_unlike", "_law_way_due", "_law_low_due", "_law_detour", "_law_walk", "_law_lists", "_law_is_number", "_law_same", "_law_steps_judged", "_law_judged_anew", "_law_fits_due", "_law_tight", "_law_fits_judged"]
set_option maxHeartbeats 0 in
theorem runL (w : World) : HandSHeadRun.RunEq RR (PySem.W.view RR.prog [32]) hkL obL 4000 looseL w := by
  intro os
  kernel_rfl
variable {P : Program} {w : World} {K : PySem.W.Frag} {mg : Str → Option Value} {base h : Heap}
theorem stands (X : K.In h) (G : h.Ns mainGlobals mg) (c : He.SaysD faL fnL K) (i : Nat) (x : Str) (st : Stmt) (h1 : fnL[i]? = some ⟨(x, none), x, x, defArgs st, defBody st, defScope st, [], []⟩) (h2 : faL[i]? = some (.glo x)) : Stands K mg x st := by
  obtain ⟨fd, F⟩ := c.def_ i h1
  exact ⟨_, fd, He.glo_ok X G (c.fact i h2), F⟩
theorem factsL (X : K.In h) (G : h.Ns mainGlobals mg) (c : He.SaysD faL fnL K) {f : Addr} {fd : FuncData} (F : FunD K "law" "law" (defArgs s_law) (defBody s_law) (defScope s_law) [] [] f fd) : FnOk P w K mg base CX0 6 f fd ["script"] (spD K 1 m_law) := by
  have h_sum : mg "sum" = none := He.free_ok X G (c.fact 31 (f := .free "sum") rfl)
  have h_len : mg "len" = none := He.free_ok X G (c.fact 32 (f := .free "len") rfl)
  have h_set : mg "set" = none := He.free_ok X G (c.fact 33 (f := .free "set") rfl)
  have h_int : mg "int" = none := He.free_ok X G (c.fact 34 (f := .free "int") rfl)
  have h_range : mg "range" = none := He.free_ok X G (c.fact 35 (f := .free "range") rfl)
  have h_min : mg "min" = none := He.free_ok X G (c.fact 36 (f := .free "min") rfl)
  have h_sorted : mg "sorted" = none := He.free_ok X G (c.fact 37 (f := .free "sorted") rfl)
  have h_list : mg "list" = none := He.free_ok X G (c.fact 38 (f := .free "list") rfl)
  have h_isinstance : mg "isinstance" = none := He.free_ok X G (c.fact 39 (f := .free "isinstance") rfl)
  have h_bool : mg "bool" = none := He.free_ok X G (c.fact 40 (f := .free "bool") rfl)
  have c_step_parts := cal_step_parts (P := P) (w := w) (base := base) (stands X G c 0 "step_parts" s_step_parts rfl rfl)
  have c_way_cost := cal_way_cost (P := P) (w := w) (base := base) (stands X G c 1 "way_cost" s_way_cost rfl rfl) c_step_parts h_sum
  have c_step_exists := cal_step_exists (P := P) (w := w) (base := base) (stands X G c 2 "step_exists" s_step_exists rfl rfl) h_len
  have c__points_on := cal__points_on (P := P) (w := w) (base := base) (stands X G c 3 "_points_on" s__points_on rfl rfl) c_step_exists c_step_parts
  have c_is_way := cal_is_way (P := P) (w := w) (base := base) (stands X G c 4 "is_way" s_is_way rfl rfl) c__points_on h_len h_set
  have c_is_low_ring := cal_is_low_ring (P := P) (w := w) (base := base) (stands X G c 5 "is_low_ring" s_is_low_ring rfl rfl) c_step_exists c_step_parts c__points_on c_way_cost h_len h_set
  have c_fits_facts := cal_fits_facts (P := P) (w := w) (base := base) (stands X G c 6 "fits_facts" s_fits_facts rfl rfl)
  have c__law_cell := cal__law_cell (P := P) (w := w) (base := base) (stands X G c 7 "_law_cell" s__law_cell rfl rfl) h_len h_int
  have c__law_draw := cal__law_draw (P := P) (w := w) (base := base) (stands X G c 8 "_law_draw" s__law_draw rfl rfl) c__law_cell h_range h_int
  have c__law_digits := cal__law_digits (P := P) (w := w) (base := base) (stands X G c 9 "_law_digits" s__law_digits rfl rfl) c__law_draw h_min h_range h_int
  have c__law_order := cal__law_order (P := P) (w := w) (base := base) (stands X G c 10 "_law_order" s__law_order rfl rfl) c__law_digits h_range h_int
  have c__law_bound := cal__law_bound (P := P) (w := w) (base := base) (stands X G c 11 "_law_bound" s__law_bound rfl rfl) h_int
  have c__law_ring_facts := cal__law_ring_facts (P := P) (w := w) (base := base) (stands X G c 12 "_law_ring_facts" s__law_ring_facts rfl rfl) c__law_digits c__law_draw c__law_bound h_int h_range
  have f__law_ring_facts := calF__law_ring_facts (P := P) (w := w) (base := base) (stands X G c 12 "_law_ring_facts" s__law_ring_facts rfl rfl) c__law_digits c__law_draw c__law_bound h_int h_range
  have c__law_extra := cal__law_extra (P := P) (w := w) (base := base) (stands X G c 13 "_law_extra" s__law_extra rfl rfl) c__law_bound h_int h_len
  have c__law_facts := cal__law_facts (P := P) (w := w) (base := base) (stands X G c 14 "_law_facts" s__law_facts rfl rfl) c__law_draw c__law_order c__law_digits c__law_extra f__law_ring_facts h_range h_len h_int
  have c__law_step := cal__law_step (P := P) (w := w) (base := base) (stands X G c 15 "_law_step" s__law_step rfl rfl) h_len
  have c__law_chain := cal__law_chain (P := P) (w := w) (base := base) (stands X G c 16 "_law_chain" s__law_chain rfl rfl) c__law_step h_len
  have c__law_unlike := cal__law_unlike (P := P) (w := w) (base := base) (stands X G c 17 "_law_unlike" s__law_unlike rfl rfl) h_sorted h_len h_range
  have c__law_way_due := cal__law_way_due (P := P) (w := w) (base := base) (stands X G c 18 "_law_way_due" s__law_way_due rfl rfl) c__law_chain c__law_unlike h_len
  have c__law_low_due := cal__law_low_due (P := P) (w := w) (base := base) (stands X G c 19 "_law_low_due" s__law_low_due rfl rfl) c__law_chain c__law_unlike h_len
  have c__law_detour := cal__law_detour (P := P) (w := w) (base := base) (stands X G c 20 "_law_detour" s__law_detour rfl rfl) c__law_step h_len h_range
  have c__law_walk := cal__law_walk (P := P) (w := w) (base := base) (stands X G c 21 "_law_walk" s__law_walk rfl rfl) c__law_digits h_int h_range h_len
  have c__law_lists := cal__law_lists (P := P) (w := w) (base := base) (stands X G c 22 "_law_lists" s__law_lists rfl rfl) c__law_digits c__law_walk c__law_detour h_len h_int h_list
  have c__law_is_number := cal__law_is_number (P := P) (w := w) (base := base) (stands X G c 23 "_law_is_number" s__law_is_number rfl rfl) h_isinstance h_int h_bool
  have c__law_same := cal__law_same (P := P) (w := w) (base := base) (stands X G c 24 "_law_same" s__law_same rfl rfl) h_isinstance h_bool
  have c__law_steps_judged := cal__law_steps_judged (P := P) (w := w) (base := base) (stands X G c 25 "_law_steps_judged" s__law_steps_judged rfl rfl) c__law_step c__law_same c__law_way_due c_is_way c__law_low_due c_is_low_ring c_way_cost c__law_is_number h_len h_list
  have c__law_judged_anew := cal__law_judged_anew (P := P) (w := w) (base := base) (stands X G c 26 "_law_judged_anew" s__law_judged_anew rfl rfl) c__law_draw c__law_step c__law_same c__law_low_due c_is_low_ring c__law_way_due c_is_way c_way_cost c__law_chain h_list h_len
  have c__law_fits_due := cal__law_fits_due (P := P) (w := w) (base := base) (stands X G c 27 "_law_fits_due" s__law_fits_due rfl rfl)
  have c__law_tight := cal__law_tight (P := P) (w := w) (base := base) (stands X G c 28 "_law_tight" s__law_tight rfl rfl) c__law_digits h_len h_range h_int
  have c__law_fits_judged := cal__law_fits_judged (P := P) (w := w) (base := base) (stands X G c 29 "_law_fits_judged" s__law_fits_judged rfl rfl) c__law_draw c__law_digits c__law_tight c__law_same c__law_fits_due c_fits_facts h_int h_len h_list
  exact fn_law F c__law_draw c__law_facts c__law_lists c__law_steps_judged c__law_judged_anew c__law_fits_judged h_len
theorem lastL (hm : ∀ ns : List Int, ns.length ≤ 63 → m_law [.scr ns] = some (.bl true)) (X : K.In h) (G : h.Ns mainGlobals mg) (c : He.SaysD faL fnL K) {fa : Addr} (hmg : mg "law" = some (.ref fa)) :
    ∃ (K : PySem.W.Frag) (fd : FuncData) (sp : Sp), K.In h ∧ (∀ (s : Shared) (u : Value), BindsTo s fd ⟨[u], []⟩ [("script", u)]) ∧
        (∀ (H : Hp) (a : Addr) (ns : List Int), ns.length ≤ 63 → Only H → SqL K H a (ns.map V.int) → sp [.ref a] H (fun v _ => v = .bl true) fun _ _ _ => False) ∧
        ∀ base : Heap, K.In base → base.Ns mainGlobals mg → FnOk P w K mg base CX0 6 fa fd ["script"] sp := by
  obtain ⟨f, fd, g, F⟩ := (stands X G c 30 "law" s_law rfl rfl).ex
  rw [g] at hmg
  cases hmg
  have F0 := F
  obtain ⟨oc, od, dV, kV, doc, pm, an, cdv, ct, osl, rfl, lk, hcd, hd, _⟩ := F0.ex
  have hdv : dV = .none := by
    rcases hd with ⟨_, h⟩ | ⟨z, _⟩
    · exact h
    · exact absurd rfl z
  subst hdv
  refine ⟨K, _, spD K 1 m_law, X, fun s u => .of_eq (bd_law kV doc pm an cdv ct [u] rfl), fun H a ns hl _ hS => ⟨noS, [.scr ns], .bl true, fun a z => z.elim, .cons ((Rp.scr hS).mono rem_no _) .nil, rfl, hm ns hl, fun v H' _ r => ?_⟩, fun base _ _ => factsL X G c F⟩
  cases r
  rfl
end
end Sx
open PySem PySem.W PySem.Calls PyProof.Rows
set_option maxHeartbeats 0 in
theorem PySem.Challenge.cw_surelyseen_k04_ways_judged_holds : PySem.Challenge.rw_surelyseen_k04_ways_judged.Holds := by
  w_on; o_law
  refine HandSHeadRun.head_any (r := OpenLaw.row PySem.Challenge.rw_surelyseen_k04_ways_judged) (q := view (OpenLaw.row PySem.Challenge.rw_surelyseen_k04_ways_judged).prog [32]) (H := Sx.hkL) (ob := Sx.obL) (M := 4000) (loose := Sx.looseL) (d := HandSHeadRun.topDef (OpenLaw.row PySem.Challenge.rw_surelyseen_k04_ways_judged).prog 32) (kwd := []) Sx.obL_eq
    (by kernel_rfl) (fun s => by kernel_rfl) Sx.runL (by kernel_rfl) (by kernel_rfl) (by kernel_rfl) (by rfl) (by first | assumption | decide +kernel) (by decide +kernel) ⟨rfl, rfl, rfl, rfl, rfl, by decide +kernel⟩ ?hw ?hc
  case hw => w_witness2
  case hc =>
    refine L2.walk_ofE (l := PySem.Challenge.rw_surelyseen_k04_ways_judged) (n := 63) (k := 6) (x := "script") (CX := L2.CX0) rfl (by decide) (by kernel_rfl) ⟨rfl, by decide, by decide⟩ ?F (fun _ _ _ _ z => z)
    intro w mg fa h Y G hmg0
    obtain ⟨K, KX, c⟩ := Y
    have hmg : mg ("law" : PySem.Str) = some (.ref fa) := by
      have e : (HandSHeadRun.topDef (OpenLaw.row PySem.Challenge.rw_surelyseen_k04_ways_judged).prog 32).name = ("law" : PySem.Str) := by kernel_rfl
      rw [← e]
      exact hmg0
    exact Sx.lastL Sx.law_true KX G c hmg
