import PyProof.Rows.All
import Wide.All
import OpenK.AllK
import Wide.FinOn
import HandS.ForMost
import HandS.Iter
import HandS.Walk
import KE.GoesMore
import HandS.More
import HandS.SortInts
import HandS.Evl
import HandS.Flow
import HandS.Style
import HandS.TupAny
import HandS.IsInst
import HandS.Defaults
import HandS.Dict
import HandS.Head0
import HandS.Head1
import HandS.Head2
import HandS.HeadEnd
import HandS.HeadHook1
import HandS.HeadHook2
import HandS.Zip
import HandS.Sort
import HandS.MakeKwOnly
import PyProof.SeqRoads2
import HandS.SetFor
import PyProof.EqKinds
import PySem.Challenge.RW_surelyseen_k26_whole_ring_or_cut
set_option Elab.async false
set_option linter.all false
set_option maxRecDepth 100000
set_option maxHeartbeats 1000000
namespace PySem
open Sem (wp)
open AutoSeq1 (wpAny_loadPart')
theorem meets_enumerate_newTu (l : Addr) (items : Array Value) (n : Nat) (dct : Option Addr) (sl : Array (Option Value)) :
    Meets (Builtin.«enumerate.__new__» ⟨[.type "enumerate", .ref l], []⟩) (fun _ R s => s.heap.get? l = some { cls := .type "tuple", dict := dct, data := .seq items n, slots := sl } ∧
      R (.ok (.ret (.ref (s.heap.push { cls := .type "tuple_iterator", data := .fields #[.ref l, .int 0 0] }).objs.size)))
        { s with heap := (s.heap.push { cls := .type "tuple_iterator", data := .fields #[.ref l, .int 0 0] }).push { cls := .type "enumerate", data := .fields #[.none, .bool false, .ref s.heap.objs.size, rawInt 0, .none, .none] } }) :=
  .of_wp fun prog w A R s h => by
    obtain ⟨hp, g, d, tk, os⟩ := s; obtain ⟨hl, h⟩ := h
    have hsub := sub_enumerate
    have hL : Heap.IsTuple (Shared.heap ⟨hp, g, d, tk, os⟩) l items := ⟨_, hl, rfl, n, rfl⟩
    wp_walk using wpAny_loadPart' hl
    refine wpAny_stack_any fun st => wpAny_pure ?_
    split
    · rename_i c _ _ _ _ _
      cases (c == Value.type "enumerate")
      · wp_walk using wpAny_loadPart' hl, wpAny_pyIter_tuple hL
        exact ⟨_, rfl, h⟩
      · wp_walk using wpAny_loadPart' hl, wpAny_pyIter_tuple hL
        exact ⟨_, rfl, h⟩
    · wp_walk using wpAny_loadPart' hl, wpAny_pyIter_tuple hL
      exact ⟨_, rfl, h⟩
section
variable {prog : Program} {w : World} {A : Around} {E : Value → Shared → Prop} {s : Shared}
theorem call_enumerate_tuple {l : Addr} {items : Array Value} {Q : Value → Shared → Prop} (hL : s.heap.IsTuple l items)
    (h : ∀ h', IsEnum h' (s.heap.objs.size + 1) s.heap.objs.size 0 .none → h'.IsTupleIter s.heap.objs.size l 0 → h'.objs.size = s.heap.objs.size + 2 →
      (∀ b o, s.heap.get? b = some o → h'.get? b = some o) → Q (.ref (s.heap.objs.size + 1)) { s with heap := h' }) :
    wpAny (model prog w) A (call (.type "enumerate") [.ref l]) Q E s := by
  obtain ⟨⟨c, dct, dt, sl⟩, hl, hc, n, hd⟩ := hL
  replace hc : c = .type "tuple" := hc
  replace hd : dt = .seq items n := hd
  subst hc hd
  refine callType_new F.called_enumerate (by decide) (F.typeCall_enumerate_1 _) (F.newCall_enumerate_1 _) (fun obj => F.args_object_init_2 obj _) F.entry_enumerate_new
    (meets_enumerate_newTu l items n dct sl) ⟨hl, ?_⟩
  have hz : (s.heap.push { cls := .type "tuple_iterator", data := .fields #[.ref l, .int 0 0] }).objs.size = s.heap.objs.size + 1 := Heap.size_push ..
  show _ ∧ _
  rw [hz]
  have he : IsEnum ((s.heap.push { cls := .type "tuple_iterator", data := .fields #[.ref l, .int 0 0] }).push
      { cls := .type "enumerate", data := .fields #[.none, .bool false, .ref s.heap.objs.size, rawInt 0, .none, .none] }) (s.heap.objs.size + 1) s.heap.objs.size 0 .none := by
    have := Heap.get?_push_size (s.heap.push { cls := .type "tuple_iterator", data := .fields #[.ref l, .int 0 0] })
      (o := { cls := .type "enumerate", data := .fields #[.none, .bool false, .ref s.heap.objs.size, rawInt 0, .none, .none] }) rfl
    rw [hz] at this; exact this
  refine ⟨⟨_, he, rfl⟩, h _ he ⟨_, Heap.get?_push_of_some _ (Heap.get?_push_size _ rfl), rfl, rfl⟩ (by rw [Heap.size_push, hz]) fun b o x => Heap.get?_push_of_some _ (Heap.get?_push_of_some _ x)⟩
end
end PySem
namespace L2
open PySem PySem.Spec PyProof.Rows
/-- the tuple at a as it stands at each turn, each item in a new pair -/
def IteT (K : PySem.W.Frag) (a : Addr) : It :=
  ⟨fun i H => ∃ (xs : List V) (x : V), SqT K H a xs ∧ xs[i]? = some x, fun i H v H' => ∃ T x, v = .ref T ∧ H T = none ∧ H' = upd H T (.tup [.int (i : Nat), x]) ∧ ∀ xs, SqT K H a xs → xs[i]? = some x, fun i H => ∃ xs : List V, SqT K H a xs ∧ xs.length ≤ i⟩
theorem turn_enumT {P : Program} {w : World} {K : PySem.W.Frag} {elts : List Expr} {kk : Nat} {tpos : Pos} (a e it : Addr) :
    Turn P w K (.Tuple elts kk tpos) (IteT K a) [e, it] e (fun i h => (∃ old, IsEnum h e it ((i : Nat) : Int) old) ∧ h.IsTupleIter it a i ∧ e ≠ it) where
  mem := by simp
  obj := fun i h st b hb => by
    obtain ⟨⟨old, he⟩, ⟨o, ho, hc, hd⟩, _⟩ := st
    have e' : b = e ∨ b = it := by simpa using hb
    rcases e' with z | z
    · rw [z]; exact ⟨_, he, fun v q => nomatch q⟩
    · rw [z]; exact ⟨o, ho, fun v q => by rw [hd] at q; cases q⟩
  keep := fun i h h' st k => let ⟨⟨old, he⟩, hi, hne⟩ := st; ⟨⟨old, k e (by simp) _ he⟩, hi.at fun o q => k it (by simp) o q, hne⟩
  item := by
    intro X hP hw hK hc i pins s σ H E I hf st hg
    subst hP hw hK
    obtain ⟨⟨old, he⟩, hit, hne⟩ := st
    obtain ⟨xs, x, hq, hx⟩ := hg
    obtain ⟨its, rv, p, hz⟩ := I.tuple hq
    obtain ⟨u, hu, ru⟩ := rv.get hx
    have hel : e < s.heap.objs.size := Heap.lt_size he
    have hil : it < s.heap.objs.size := by obtain ⟨_, q, _⟩ := hit; exact Heap.lt_size q
    have pt : s.heap.IsTuple a its.toArray := p
    have hai : a ≠ it := fun z => by
      subst z
      obtain ⟨o1, h1, c1, _⟩ := hit
      obtain ⟨o2, h2, c2, _⟩ := pt
      rw [h1] at h2
      cases h2
      rw [c1] at c2
      exact absurd c2 (by decide)
    have hae : e ≠ a := fun z => by
      subst z
      obtain ⟨o2, h2, c2, _⟩ := pt
      have h1 : s.heap.get? e = some _ := he
      rw [h1] at h2
      cases h2
      exact absurd (show Value.type "enumerate" = Value.type "tuple" from c2) (by decide)
    refine wpAny_pyNext_enum_itemD (Draws.tuple (A := X.A.in1) (show X.A.in1.handled = none from I.ok.hd hc) it a hai its.toArray) he ⟨hit, pt⟩ (by
      have := (List.getElem?_eq_some_iff.mp hu).1
      simpa using this) hne (by simp [hne, hae]) fun u2 h' tk hu2 ho hit' hT hsz hk => ?_
    have eu : u2 = u := by
      have : its.toArray[i]? = some u := by simpa using hu
      rw [this] at hu2
      exact (Option.some.inj hu2).symm
    subst eu
    refine ⟨_, rfl, wpAny_letOwnedTupleGo_enum (s := { s with heap := h', toks := tk + 1 }) ho fun h'' he' sb => ?_⟩
    have hT2 : h''.get? s.heap.objs.size = some { cls := .type "tuple", data := .seq #[.int i tk, u2] } := (sb.2 _ (Nat.ne_of_gt hel)).trans hT
    have new : ObjOk X.prog X.w (upd H s.heap.objs.size (.tup [.int (i : Nat), x])) h'' s.heap.objs.size (.tup [.int (i : Nat), x]) :=
      ⟨by show 2 ≤ sizeLine; decide, [.int i tk, u2], .cons ⟨_, rfl⟩ (.cons ru .nil), ⟨_, hT2, rfl, _, rfl⟩⟩
    have I1 : Inv X pins σ (upd H s.heap.objs.size (.tup [.int (i : Nat), x])) { s with heap := h'', toks := tk + 1 } :=
      I.turnedNew (ch := [e, it]) (fun b ob hb q => (sb.2 b (fun z => hb (by simp [z]))).trans (hk b ob (fun z => hb (by simp [z])) (fun z => hb (by simp [z])) q)) hf (Nat.le_refl _) new
    refine ⟨.ref s.heap.objs.size, _, I1, rfl, ⟨_, x, rfl, I.hok.fresh (Nat.le_refl _), rfl, fun ys hy => by rw [I.tuple_inj hy hq]; exact hx⟩, ⟨⟨u2, ?_⟩, hit'.1.at fun o q => (sb.2 it (Ne.symm hne)).trans q, hne⟩, fun b hb => ?_⟩
    · have e1 : ((i + 1 : Nat) : Int) = (i : Int) + 1 := by omega
      rw [e1]; exact he'
    · have hb' : b < s.heap.objs.size := by
        have e' : b = e ∨ b = it := by simpa using hb
        rcases e' with z | z
        · rw [z]; exact hel
        · rw [z]; exact hil
      rw [upd_ne (Nat.ne_of_lt hb')]
      exact (hf b hb).1
  done := by
    intro X hP hw hK hc i pins s σ H E I hf st hg
    subst hP hw hK
    obtain ⟨⟨old, he⟩, hit, hne⟩ := st
    obtain ⟨xs, hq, hx⟩ := hg
    obtain ⟨its, rv, p, hz⟩ := I.tuple hq
    obtain ⟨f0, f1, f2, f3, f4, f5⟩ := hf it (by simp)
    have hl := rv.length
    have pt : s.heap.IsTuple a its.toArray := p
    have D : Draws X.prog X.w X.A.in1 it [it, a] i (fun _ _ => True) (fun j h => j = i ∧ h.IsTupleIter it a j ∧ h.IsTuple a its.toArray) :=
      { live := fun _ _ st => let ⟨o, ho, _⟩ := st.2.1; ⟨o, ho⟩
        frame := fun _ _ _ st hk => ⟨st.1, st.2.1.at fun o e => hk it (by simp) o e, st.2.2.at fun o e => hk a (by simp) o e⟩
        item := fun j s Q E hi st hQ => absurd st.1 (by omega)
        done := fun s Q E st hE => wpAny_nextOf_tuple_end (show X.A.in1.handled = none from I.ok.hd hc) st.2.1 st.2.2 (by simp; omega) hE }
    exact wpAny_pyNext_enum_endD D he ⟨rfl, hit, pt⟩ fun h' eb => ⟨rfl, I.turned (t' := s.toks) (fun b o hb q => eb b o hb q) f0 f1 f3 f4 f5⟩
  self := fun A i s Q E st h => let ⟨⟨_, he⟩, _⟩ := st; wpAny_pyIter_enum he h
def iEnumT (K : PySem.W.Frag) (ta : TA) : TI := fun σ H R => ta σ H fun vs H1 => ∃ a xs, vs = [.ref a] ∧ SqT K H1 a xs ∧ R (IteT K a) H1
theorem pi_enumT {X : Cx} {e : Expr} {ta : TA} {p pos tpos : Pos} {elts : List Expr} {kk : Nat} (hg : Gl X "enumerate") (hm : X.mg "enumerate" = none) (ha : PA X [e] ta) (hs : starEach [e] X.env = [(false, eval e X.env)] := by rfl) :
    PI X (.Tuple elts kk tpos) (.Call (.Name "enumerate" p) [e] [] pos) (iEnumT X.K ta) := by
  refine ⟨fun pins s σ H R I h => ?_⟩
  refine Call_ (ld_blt I hg hm boot_enumerate (PyProof.Rows.callWith_type1 (thn (ha.run pos pins s σ H _ I h) fun us s1 ⟨vs, H1, I1, r1, q1⟩ => ?_) hs rfl))
  obtain ⟨a, xs, ex, hq, q⟩ := q1
  subst ex
  cases r1 with
  | cons r rr =>
    cases rr
    cases r
    obtain ⟨its, rv, p', hz⟩ := I1.tuple hq
    refine call_enumerate_tuple (show s1.heap.IsTuple a its.toArray from p') fun h' he hit hsz hk => wpAny_pyIter_enum he ?_
    have I2 : Inv X pins σ H1 { s1 with heap := h' } := I1.kept (t' := s1.toks) hk
    refine ⟨s1.heap.objs.size + 1, [s1.heap.objs.size + 1, s1.heap.objs.size], _, _, H1, rfl, I2, turn_enumT a (s1.heap.objs.size + 1) s1.heap.objs.size, ⟨⟨.none, he⟩, hit, Nat.succ_ne_self _⟩, fun b hb => ?_, q⟩
    have e' : b = s1.heap.objs.size + 1 ∨ b = s1.heap.objs.size := by simpa using hb
    have hle : s1.heap.objs.size ≤ b := by
      rcases e' with z | z
      · rw [z]; exact Nat.le_add_right _ _
      · rw [z]; exact Nat.le_refl _
    exact I1.fpOk hle (I1.hok.fresh hle)
theorem walk_enumT {K : PySem.W.Frag} {a : Addr} {xs : List V} : Walk (IteT K a) xs.length (fun H => SqT K H a xs) (YPair (fun i => some (.int (i : Nat))) (fun i => xs[i]?)) := by
  refine ⟨fun i _ hi q => ⟨xs, xs[i], q, by simp [hi]⟩, fun _ q => ⟨xs, q, Nat.le_refl _⟩, fun i H v H' _ q y => ?_⟩
  obtain ⟨T, x, h1, h2, h3, h4⟩ := y
  exact ⟨T, .int (i : Nat), x, h1, h2, h3, rfl, h4 xs q⟩
end L2

set_option Elab.async false
set_option linter.all false
set_option maxRecDepth 100000
set_option maxHeartbeats 1000000
namespace L2
open PySem PySem.Spec PyProof.Rows
section
variable {X : Cx}
theorem call_sortedDIx (hcalm : X.calm = true) : CallR X (.builtin "sorted") (fun xs H Q => ∃ (a : Addr) (kvs : List (Key × V)) (ks : List Int), xs = [.ref a] ∧ Rd H a (.dK kvs) ∧ kvs.map (·.1) = ks.map Sum.inl ∧ ks.length ≤ 100000 ∧
    ∀ (ys : List Int) (p : Addr), ys.Perm ks → ys.Pairwise (· ≤ ·) → H p = none → Q (.ref p) (upd H p (.lst (ys.map V.int)))) := by
  intro pins s σ H xs us Q I r q
  obtain ⟨a, kvs, ks, ex, hd, hks, h64, q⟩ := q
  subst ex
  obtain ⟨u, eu, rx⟩ := vals1 r
  subst eu
  cases rx
  obtain ⟨z, lo, vs, rel, dd⟩ := dk_rd I.hok hd
  obtain ⟨ep, hat⟩ := dd.dictAt
  have hkeys : vs.map (·.1) = ks.map Sum.inl := rel.keys.symm.trans hks
  have hl : vs.length = ks.length := by
    have e := congrArg List.length hkeys
    rw [List.length_map, List.length_map] at e
    exact e
  have hkz : ks.length ≤ sizeLine := by rw [sizeLine_eq]; omega
  have h16 : vs.length ≤ sizeLine := by rw [hl]; exact hkz
  refine Calls.call_function_entry PyProof.Rows.kind_sorted PyProof.Rows.plain_sorted PyProof.Rows.entry_sorted (PyProof.Rows.args_sorted1 _) ?_
  unfold Builtin.«sorted»
  refine wpAny_bind (m := checkCount "sorted" 1 1 _) (wpAny_pure ?_)
  refine wpAny_bind (PySem.W.kdu_collect (A := X.A.in1) (PySem.W.kdl_dict (knd := mixKind X.prog X.w) (kvs := vs) (ep := ep) lo) (I.ok.hd hcalm) hat h16 fun h' tk acc hk hacc => ?_)
  have hal : acc.toList.length = ks.length := by rw [Array.length_toList, hacc.1, hl]
  have hS : IntsAre acc.toList ks := ints_each hal fun j v e => by
    obtain ⟨k, x, e1, e2⟩ := hacc.2 j v (by rw [← Array.getElem?_toList]; exact e)
    have e3 : (vs.map (·.1))[j]? = some k := by rw [List.getElem?_map, e1]; rfl
    rw [hkeys, List.getElem?_map] at e3
    cases e4 : ks[j]? with
    | none => rw [e4] at e3; cases e3
    | some y =>
      rw [e4] at e3
      have e5 : Sum.inl y = k := Option.some.inj e3
      subst e5
      rcases keyIs_shape (show keyIs (Sum.inl y) v = true from e2) with ⟨i, t, ek, ev⟩ | ⟨z, t, ek, ev⟩
      · cases ek
        exact ⟨y, t, rfl, ev⟩
      · cases ek
  have I1 : Inv X pins σ H { s with heap := h', toks := tk } := I.kept hk
  refine wpAny_bind (wpAny_newList ?_ (by rw [hal]; exact hkz))
  have hoL : (h'.push (seqObj "list" acc.toList.toArray 0)).get? h'.objs.size = some (seqObj "list" acc.toList.toArray 0) := Heap.get?_push_size _ rfl
  show wpAny _ _ _ _ _ { s with heap := h'.push (seqObj "list" acc.toList.toArray 0), toks := tk }
  refine wpAny_bind (wpAny_holding (wpAny_call_entry PyProof.Rows.slot_list_sort ⟨_, hoL, rfl⟩ PyProof.Rows.entry_list_sort
    (SrtO.list_sort_ord (s := { s with heap := h'.push (seqObj "list" acc.toList.toArray 0), toks := tk }) SrtO.swo_int hoL (by rw [hal]; exact hkz) (fun h2 => SrtO.ints_sortable hS h2) fun out h1 h2 => ⟨_, rfl, ?_⟩) (PyProof.Rows.args_list_sort _)))
  obtain ⟨g1, g2, g3⟩ := SrtO.ints_out hS h1 h2
  obtain ⟨e', he'⟩ := PyProof.Rows.sortedHeap_at (vs := acc.toList) (out := out.toArray) hoL
  generalize out.map SrtO.iv = ys at *
  have hlen : (ys.map V.int).length ≤ sizeLine := by
    rw [List.length_map, g2.length_eq]
    exact hkz
  refine wpAny_pure ⟨_, rfl, .ref h'.objs.size, upd H h'.objs.size (.lst (ys.map V.int)), I1.laid (t' := tk) (fun b u e => ?_) (Nat.le_refl _)
    (show ObjOk X.prog X.w _ _ _ (.lst (ys.map V.int)) from ⟨hlen, out, e', vals_of_ints g1, he'⟩), rfl, q ys _ g2 g3 (I1.hok.fresh (Nat.le_refl _))⟩
  have hb : b < h'.objs.size := Heap.lt_size e
  rw [PyProof.Rows.sortedHeap_old (Nat.ne_of_lt hb) (by rw [size_push']; exact Nat.lt_succ_of_lt hb)]
  exact Heap.get?_push_of_some _ e
end
end L2

set_option Elab.async false
set_option linter.all false
set_option maxRecDepth 100000
namespace Sx
open PySem PySem.Spec PyProof.Rows L2
open Evl (Ex)

/-- data without addresses -/
inductive D where
  | non | bl (b : Bool) | int (i : Int) | str (x : Str) | lst (xs : List D) | tup (xs : List D) | scr (ns : List Int)
  | dct (ks : List Key) (xs : List D) | obj (x : Str) (fs : List Str) (xs : List D)

mutual
inductive Rp (K : PySem.W.Frag) (H : Hp) : V → D → Prop
  | non : Rp K H .non .non
  | bl (b : Bool) : Rp K H (.bl b) (.bl b)
  | int (i : Int) : Rp K H (.int i) (.int i)
  | str (x : Str) : Rp K H (.str x) (.str x)
  | lst {a : Addr} {xs : List V} {ds : List D} : H a = some (.lst xs) → RpL K H xs ds → Rp K H (.ref a) (.lst ds)
  | tup {a : Addr} {xs : List V} {ds : List D} : SqT K H a xs → RpL K H xs ds → Rp K H (.ref a) (.tup ds)
  | scr {a : Addr} {ns : List Int} : SqL K H a (ns.map V.int) → Rp K H (.ref a) (.scr ns)
  | dct {a : Addr} {ks : List Key} {xs : List V} {ds : List D} : H a = some (.dK (ks.zip xs)) → ks.length = xs.length → RpL K H xs ds → Rp K H (.ref a) (.dct ks ds)
  | obj {a dx : Addr} {x : Str} {fs : List Str} {xs : List V} {ds : List D} : H a = some (.ins (He.ga K x) dx (fs.zip xs)) → fs.length = xs.length → RpL K H xs ds → Rp K H (.ref a) (.obj x fs ds)
inductive RpL (K : PySem.W.Frag) (H : Hp) : List V → List D → Prop
  | nil : RpL K H [] []
  | cons {v : V} {vs : List V} {d : D} {ds : List D} : Rp K H v d → RpL K H vs ds → RpL K H (v :: vs) (d :: ds)
end

section
variable {K : PySem.W.Frag} {H H' : Hp}
mutual
theorem Rp.mono (e : Ex H H') : ∀ (d : D) {v : V}, Rp K H v d → Rp K H' v d
  | .non, _, h => by cases h; exact .non
  | .bl b, _, h => by cases h; exact .bl b
  | .int i, _, h => by cases h; exact .int i
  | .str x, _, h => by cases h; exact .str x
  | .lst ds, _, h => by
    cases h with
    | lst h1 h2 => exact .lst (e _ _ h1) (RpL.mono e ds h2)
  | .tup ds, _, h => by
    cases h with
    | tup h1 h2 => exact .tup (Evl.ex_t e h1) (RpL.mono e ds h2)
  | .scr ns, _, h => by
    cases h with
    | scr h1 => exact .scr (Evl.ex_l e h1)
  | .dct ks ds, _, h => by
    cases h with
    | dct h1 h2 h3 => exact .dct (e _ _ h1) h2 (RpL.mono e ds h3)
  | .obj x fs ds, _, h => by
    cases h with
    | obj h1 h2 h3 => exact .obj (e _ _ h1) h2 (RpL.mono e ds h3)
theorem RpL.mono (e : Ex H H') : ∀ (ds : List D) {vs : List V}, RpL K H vs ds → RpL K H' vs ds
  | [], _, h => by cases h; exact .nil
  | d :: ds, _, h => by
    cases h with
    | cons h1 h2 => exact .cons (Rp.mono e d h1) (RpL.mono e ds h2)
end
theorem RpL.length : ∀ {vs : List V} {ds : List D}, RpL K H vs ds → vs.length = ds.length
  | _, [], h => by cases h; rfl
  | _, d :: ds, h => by
    cases h with
    | cons h1 h2 => exact congrArg Nat.succ h2.length
theorem RpL.get : ∀ {vs : List V} {ds : List D} {i : Nat} {d : D}, RpL K H vs ds → ds[i]? = some d → ∃ v, vs[i]? = some v ∧ Rp K H v d
  | _, [], i, d, h, e => by simp at e
  | _, d :: ds, 0, d', h, e => by
    cases h with
    | cons h1 h2 =>
      simp at e
      subst e
      exact ⟨_, rfl, h1⟩
  | _, d :: ds, i + 1, d', h, e => by
    cases h with
    | cons h1 h2 =>
      obtain ⟨v, e1, e2⟩ := h2.get (i := i) (d := d') (by simpa using e)
      exact ⟨v, by simpa using e1, e2⟩
theorem RpL.getV {vs : List V} {ds : List D} {i : Nat} {v : V} (h : RpL K H vs ds) (e : vs[i]? = some v) : ∃ d, ds[i]? = some d ∧ Rp K H v d := by
  have hi : i < vs.length := (List.getElem?_eq_some_iff.mp e).1
  rw [h.length] at hi
  obtain ⟨u, e1, e2⟩ := h.get (List.getElem?_eq_getElem hi)
  rw [e] at e1
  cases e1
  exact ⟨_, List.getElem?_eq_getElem hi, e2⟩
theorem RpL.app : ∀ {vs us : List V} {ds es : List D}, RpL K H vs ds → RpL K H us es → RpL K H (vs ++ us) (ds ++ es)
  | _, _, [], _, h, g => by cases h; exact g
  | _, _, d :: ds, _, h, g => by
    cases h with
    | cons h1 h2 => exact .cons h1 (h2.app g)
theorem RpL.one {v : V} {d : D} (h : Rp K H v d) : RpL K H [v] [d] := .cons h .nil
theorem RpL.take : ∀ {vs : List V} {ds : List D} (n : Nat), RpL K H vs ds → RpL K H (vs.take n) (ds.take n)
  | _, _, 0, _ => .nil
  | _, [], _ + 1, h => by cases h; exact .nil
  | _, d :: ds, n + 1, h => by
    cases h with
    | cons h1 h2 => exact .cons h1 (h2.take n)
theorem RpL.drop : ∀ {vs : List V} {ds : List D} (n : Nat), RpL K H vs ds → RpL K H (vs.drop n) (ds.drop n)
  | _, _, 0, h => h
  | _, [], _ + 1, h => by cases h; exact .nil
  | _, d :: ds, n + 1, h => by
    cases h with
    | cons h1 h2 => exact h2.drop n
theorem RpL.set {v : V} {d : D} (g : Rp K H v d) : ∀ {vs : List V} {ds : List D} (n : Nat), RpL K H vs ds → RpL K H (vs.set n v) (ds.set n d)
  | _, [], _, h => by cases h; exact .nil
  | _, e :: ds, 0, h => by
    cases h with
    | cons h1 h2 => exact .cons g h2
  | _, e :: ds, n + 1, h => by
    cases h with
    | cons h1 h2 => exact .cons h1 (h2.set g n)
theorem RpL.rev : ∀ {vs : List V} {ds : List D}, RpL K H vs ds → RpL K H vs.reverse ds.reverse
  | _, [], h => by cases h; exact .nil
  | _, d :: ds, h => by
    cases h with
    | cons h1 h2 =>
      rw [List.reverse_cons, List.reverse_cons]
      exact h2.rev.app (.one h1)
theorem RpL.rep (n : Nat) {vs : List V} {ds : List D} (h : RpL K H vs ds) : RpL K H (List.replicate n vs).flatten (List.replicate n ds).flatten := by
  induction n with
  | zero => exact .nil
  | succ n ih =>
    rw [List.replicate_succ, List.replicate_succ, List.flatten_cons, List.flatten_cons]
    exact h.app ih
theorem RpL.ints : ∀ (ns : List Int), RpL K H (ns.map V.int) (ns.map D.int)
  | [] => .nil
  | n :: ns => .cons (.int n) (RpL.ints ns)
theorem RpL.ints_of : ∀ {ns : List Int} {vs : List V}, RpL K H vs (ns.map D.int) → vs = ns.map V.int
  | [], _, h => by cases h; rfl
  | n :: ns, _, h => by
    cases h with
    | cons h1 h2 =>
      cases h1
      rw [RpL.ints_of h2]
      rfl
end

/-! ### hidden and owned addresses -/
abbrev AS := Addr → Prop
open Classical in
noncomputable def rem (W : AS) (H : Hp) : Hp := fun a => if W a then none else H a
abbrev orS (W U : AS) : AS := fun a => W a ∨ U a
abbrev noS : AS := fun _ => False
theorem rem_some {W : AS} {H : Hp} {a : Addr} {o : HO} : rem W H a = some o ↔ ¬ W a ∧ H a = some o := by
  unfold rem
  by_cases h : W a
  · rw [if_pos h]
    exact ⟨fun e => (nomatch e), fun e => absurd h e.1⟩
  · rw [if_neg h]
    exact ⟨fun e => ⟨h, e⟩, fun e => e.2⟩
theorem rem_ex {W : AS} {H : Hp} : Ex (rem W H) H := fun a o h => (rem_some.mp h).2
theorem rem_mono {W : AS} {H H' : Hp} (e : Ex H H') : Ex (rem W H) (rem W H') := fun a o h => rem_some.mpr ⟨(rem_some.mp h).1, e a o (rem_some.mp h).2⟩
theorem rem_sub {W U : AS} {H : Hp} (s : ∀ a, U a → W a) : Ex (rem W H) (rem U H) := fun a o h => rem_some.mpr ⟨fun z => (rem_some.mp h).1 (s a z), (rem_some.mp h).2⟩
theorem rem_no {H : Hp} : Ex H (rem noS H) := fun a o h => rem_some.mpr ⟨fun z => z, h⟩
/-- what stood stays visible when a new object is set aside -/
theorem rem_new {W : AS} {H H' : Hp} {p : Addr} (hp : H p = none) (e : Ex H H') : Ex (rem W H) (rem (orS W (· = p)) H') := fun a o h => by
  obtain ⟨h1, h2⟩ := rem_some.mp h
  refine rem_some.mpr ⟨fun z => ?_, e a o h2⟩
  rcases z with z | z
  · exact h1 z
  · rw [z, hp] at h2
    cases h2
/-- a hidden object may change -/
theorem rem_upd {W : AS} {H : Hp} {p : Addr} {o : HO} (hp : W p) : Ex (rem W H) (rem W (upd H p o)) := fun a u h => by
  obtain ⟨h1, h2⟩ := rem_some.mp h
  refine rem_some.mpr ⟨h1, ?_⟩
  rw [upd_ne (fun z => by subst z; exact h1 hp)]
  exact h2

/-! ### environments -/
/-- what a slot may name: frozen data, an owned node, a tuple of such -/
inductive R where
  | fz (d : D) | rf (n : Nat) | tp (rs : List R)
/-- an owned object: it may change, and may hold other owned ones -/
inductive Nd where
  | lst (rs : List R) | dct (ks : List Key) (rs : List R) | obj (q : Option Addr) (x : Str) (fs : List Str) (rs : List R) | ll (dss : List (List D))
inductive Sl where
  | un | fz (d : D) | ow (ds : List D) | rt (r : R) | nd (x : Nd)
abbrev En := List Sl
mutual
inductive ROk (K : PySem.W.Frag) (H : Hp) (θ : Nat → Addr) : V → R → Prop
  | fz {v : V} {d : D} : Rp K H v d → ROk K H θ v (.fz d)
  | rf (n : Nat) : ROk K H θ (.ref (θ n)) (.rf n)
  | tp {a : Addr} {xs : List V} {rs : List R} : SqT K H a xs → ROks K H θ xs rs → ROk K H θ (.ref a) (.tp rs)
inductive ROks (K : PySem.W.Frag) (H : Hp) (θ : Nat → Addr) : List V → List R → Prop
  | nil : ROks K H θ [] []
  | cons {v : V} {vs : List V} {r : R} {rs : List R} : ROk K H θ v r → ROks K H θ vs rs → ROks K H θ (v :: vs) (r :: rs)
end
section
variable {K : PySem.W.Frag} {H H' : Hp} {θ : Nat → Addr}
mutual
theorem ROk.mono (e : Ex H H') : ∀ (r : R) {v : V}, ROk K H θ v r → ROk K H' θ v r
  | .fz d, _, h => by cases h with | fz h => exact .fz (h.mono e d)
  | .rf n, _, h => by cases h; exact .rf n
  | .tp rs, _, h => by
    cases h with
    | tp h1 h2 => exact .tp (Evl.ex_t e h1) (ROks.mono e rs h2)
theorem ROks.mono (e : Ex H H') : ∀ (rs : List R) {vs : List V}, ROks K H θ vs rs → ROks K H' θ vs rs
  | [], _, h => by cases h; exact .nil
  | r :: rs, _, h => by
    cases h with
    | cons h1 h2 => exact .cons (ROk.mono e r h1) (ROks.mono e rs h2)
end
end
def MutO : HO → Prop
  | .lst _ => True
  | .dK _ => True
  | .ins _ _ _ => True
  | .own _ => True
  | _ => False
abbrev IsM (H : Hp) (a : Addr) : Prop := ∃ o, H a = some o ∧ MutO o
theorem IsM.lst {H : Hp} {a : Addr} {xs : List V} (h : H a = some (.lst xs)) : IsM H a := ⟨_, h, trivial⟩
theorem IsM.mono {H H' : Hp} {a : Addr} (e : Ex H H') (h : IsM H a) : IsM H' a := let ⟨o, h1, h2⟩ := h; ⟨o, e _ _ h1, h2⟩
/-- the lists at qs, item by item -/
def LLs (K : PySem.W.Frag) (H Hv : Hp) : List Addr → List (List D) → Prop
  | [], [] => True
  | q :: qs, ds :: dss => (∃ xs, H q = some (.lst xs) ∧ RpL K Hv xs ds) ∧ LLs K H Hv qs dss
  | _, _ => False
theorem LLs.mono {K : PySem.W.Frag} {H H' Hv Hv' : Hp} : ∀ {qs : List Addr} {dss : List (List D)}, LLs K H Hv qs dss → (∀ a ∈ qs, ∀ o, H a = some o → H' a = some o) → Ex Hv Hv' → LLs K H' Hv' qs dss
  | [], [], _, _, _ => trivial
  | q :: qs, ds :: dss, h, e1, e2 => ⟨let ⟨xs, h1, h2⟩ := h.1; ⟨xs, e1 q (List.mem_cons_self ..) _ h1, h2.mono e2 ds⟩, LLs.mono (qs := qs) (dss := dss) h.2 (fun a ha => e1 a (List.mem_cons_of_mem _ ha)) e2⟩
/-- the node x stands at p, its inner lists at w; what it holds is seen in Hv -/
def NdOk (K : PySem.W.Frag) (H Hv : Hp) (θ : Nat → Addr) (p : Addr) (w : List Addr) : Nd → Prop
  | .lst rs => ∃ xs, H p = some (.lst xs) ∧ ROks K Hv θ xs rs
  | .dct ks rs => ∃ xs, H p = some (.dK (ks.zip xs)) ∧ ks.length = xs.length ∧ ROks K Hv θ xs rs
  | .obj q x fs rs => ∃ dx xs, (∀ a, q = some a → p = a) ∧ H p = some (.ins (He.ga K x) dx (fs.zip xs)) ∧ fs.length = xs.length ∧ ROks K Hv θ xs rs
  | .ll dss => H p = some (.lst (w.map V.ref)) ∧ w.Nodup ∧ p ∉ w ∧ LLs K H Hv w dss
theorem NdOk.mono {K : PySem.W.Frag} {H H' Hv Hv' : Hp} {θ : Nat → Addr} {p : Addr} {w : List Addr} {x : Nd} (h : NdOk K H Hv θ p w x) (e1 : ∀ a ∈ p :: w, ∀ o, H a = some o → H' a = some o) (e2 : Ex Hv Hv') : NdOk K H' Hv' θ p w x := by
  have e0 := e1 p (List.mem_cons_self ..)
  cases x with
  | lst rs => obtain ⟨xs, h1, h2⟩ := h; exact ⟨xs, e0 _ h1, h2.mono e2 rs⟩
  | dct ks rs => obtain ⟨xs, h1, h2, h3⟩ := h; exact ⟨xs, e0 _ h1, h2, h3.mono e2 rs⟩
  | obj q y fs rs => obtain ⟨dx, xs, h0, h1, h2, h3⟩ := h; exact ⟨dx, xs, h0, e0 _ h1, h2, h3.mono e2 rs⟩
  | ll dss => obtain ⟨h1, h2, h3, h4⟩ := h; exact ⟨e0 _ h1, h2, h3, h4.mono (fun a ha => e1 a (List.mem_cons_of_mem _ ha)) e2⟩
structure NodW (K : PySem.W.Frag) (hid O : AS) (H : Hp) (σ : L2.St) (E : En) (θ : Nat → Addr) (ω : Nat → List Addr) : Prop where
  nd : ∀ (n : Nat) (x : Nd), E[n]? = some (Sl.nd x) → (∀ a ∈ θ n :: ω n, O a) ∧ NdOk K H (rem (orS hid O) H) θ (θ n) (ω n) x
  inj : ∀ (n m : Nat) (x y : Nd), n ≠ m → E[n]? = some (Sl.nd x) → E[m]? = some (Sl.nd y) → ∀ a ∈ θ n :: ω n, a ∉ θ m :: ω m
  rt : ∀ (i : Nat) (r : R), E[i]? = some (Sl.rt r) → ∃ v, σ[i]? = some (some v) ∧ ROk K (rem (orS hid O) H) θ v r
  dis : ∀ (i n : Nat) (ds : List D) (x : Nd) (p : Addr), E[i]? = some (Sl.ow ds) → E[n]? = some (Sl.nd x) → σ[i]? = some (some (.ref p)) → p ∉ θ n :: ω n
theorem NodW.move {K : PySem.W.Frag} {hid O O' : AS} {H H' : Hp} {σ σ' : L2.St} {E E' : En} {θ : Nat → Addr} {ω : Nat → List Addr} (h : NodW K hid O H σ E θ ω)
    (c1 : ∀ (n : Nat) (x : Nd), E'[n]? = some (Sl.nd x) → E[n]? = some (Sl.nd x)) (c2 : ∀ (i : Nat) (r : R), E'[i]? = some (Sl.rt r) → E[i]? = some (Sl.rt r) ∧ σ'[i]? = σ[i]?)
    (c3 : ∀ (n : Nat) (x : Nd), E'[n]? = some (Sl.nd x) → ∀ a ∈ θ n :: ω n, O' a ∧ ∀ o, H a = some o → H' a = some o) (c4 : Ex (rem (orS hid O) H) (rem (orS hid O') H'))
    (c5 : ∀ (i n : Nat) (ds : List D) (x : Nd) (p : Addr), E'[i]? = some (Sl.ow ds) → E'[n]? = some (Sl.nd x) → σ'[i]? = some (some (.ref p)) → p ∉ θ n :: ω n) : NodW K hid O' H' σ' E' θ ω where
  nd := fun n x e => ⟨fun a ha => (c3 n x e a ha).1, (h.nd n x (c1 n x e)).2.mono (fun a ha => (c3 n x e a ha).2) c4⟩
  inj := fun n m x y d e1 e2 => h.inj n m x y d (c1 n x e1) (c1 m y e2)
  rt := fun i r e => by
    obtain ⟨v, h1, h2⟩ := h.rt i r (c2 i r e).1
    exact ⟨v, by rw [(c2 i r e).2]; exact h1, h2.mono c4 r⟩
  dis := c5

structure RE (K : PySem.W.Frag) (hid O : AS) (B H : Hp) (σ : L2.St) (E : En) : Prop where
  base : ∀ a o, B a = some o → H a = some o ∧ ¬ O a
  own : ∀ a, O a → ¬ hid a ∧ IsM H a
  hidd : ∀ a, hid a → IsM B a
  len : σ.length = E.length
  fz : ∀ (i : Nat) (d : D), E[i]? = some (.fz d) → ∃ v, σ[i]? = some (some v) ∧ Rp K (rem (orS hid O) H) v d
  ow : ∀ (i : Nat) (ds : List D), E[i]? = some (.ow ds) → ∃ (p : Addr) (xs : List V), σ[i]? = some (some (.ref p)) ∧ O p ∧ H p = some (.lst xs) ∧ RpL K (rem (orS hid O) H) xs ds
  dis : ∀ (i j : Nat) (p : Addr) (ds es : List D), i ≠ j → E[i]? = some (.ow ds) → E[j]? = some (.ow es) → σ[i]? = some (some (.ref p)) → σ[j]? = some (some (.ref p)) → False
  nod : ∃ (θ : Nat → Addr) (ω : Nat → List Addr), NodW K hid O H σ E θ ω

section
variable {K : PySem.W.Frag} {hid O : AS} {B H H' : Hp} {σ : L2.St} {E : En}
theorem set_at {α : Type} {xs : List α} {j i : Nat} {a b : α} (h : (xs.set j a)[i]? = some b) : (j = i ∧ a = b) ∨ (j ≠ i ∧ xs[i]? = some b) := by
  by_cases e : j = i
  · subst e
    have hl : j < xs.length := by
      have := (List.getElem?_eq_some_iff.mp h).1
      rwa [List.length_set] at this
    rw [List.getElem?_set_self hl] at h
    exact .inl ⟨rfl, Option.some.inj h⟩
  · rw [List.getElem?_set_ne e] at h
    exact .inr ⟨e, h⟩
theorem RE.ex (r : RE K hid O B H σ E) : Ex B H := fun a o h => (r.base a o h).1
theorem RE.fresh (r : RE K hid O B H σ E) {p : Addr} (h : H p = none) : ¬ orS hid O p := fun z => by
  rcases z with z | z
  · obtain ⟨o, e, _⟩ := r.hidd p z
    rw [(r.base p _ e).1] at h
    cases h
  · obtain ⟨_, o, e, _⟩ := r.own p z
    rw [e] at h
    cases h
theorem RE.grow (r : RE K hid O B H σ E) (e : Ex H H') : RE K hid O B H' σ E where
  base := fun a o h => ⟨e a o (r.base a o h).1, (r.base a o h).2⟩
  own := fun a h => ⟨(r.own a h).1, (r.own a h).2.mono e⟩
  hidd := r.hidd
  len := r.len
  fz := fun i d h => let ⟨v, h1, h2⟩ := r.fz i d h; ⟨v, h1, h2.mono (rem_mono e) d⟩
  ow := fun i ds h => let ⟨p, xs, h1, h2, h3, h4⟩ := r.ow i ds h; ⟨p, xs, h1, h2, e p _ h3, h4.mono (rem_mono e) ds⟩
  dis := r.dis
  nod := let ⟨θ, ω, N⟩ := r.nod; ⟨θ, ω, N.move (fun _ _ h => h) (fun _ _ h => ⟨h, rfl⟩) (fun n x h a ha => ⟨(N.nd n x h).1 a ha, fun o q => e _ o q⟩) (rem_mono e) N.dis⟩
/-- a slot is stored -/
theorem RE.put (r : RE K hid O B H σ E) {v : V} {d : D} (j : Nat) (h : Rp K (rem (orS hid O) H) v d) : RE K hid O B H (σ.set j (some v)) (E.set j (.fz d)) where
  base := r.base
  own := r.own
  hidd := r.hidd
  len := by rw [List.length_set, List.length_set]; exact r.len
  fz := fun i d' q => by
    have hl : i < E.length := by
      have := (List.getElem?_eq_some_iff.mp q).1
      rwa [List.length_set] at this
    rcases set_at q with ⟨rfl, e⟩ | ⟨e, q⟩
    · cases e
      exact ⟨v, List.getElem?_set_self (r.len ▸ hl), h⟩
    · rw [List.getElem?_set_ne e]
      exact r.fz i d' q
  ow := fun i ds q => by
    rcases set_at q with ⟨rfl, e⟩ | ⟨e, q⟩
    · cases e
    · rw [List.getElem?_set_ne e]
      exact r.ow i ds q
  dis := fun i k p ds es hik q1 q2 s1 s2 => by
    rcases set_at q1 with ⟨rfl, e⟩ | ⟨n1, q1⟩
    · cases e
    rcases set_at q2 with ⟨rfl, e⟩ | ⟨n2, q2⟩
    · cases e
    rw [List.getElem?_set_ne n1] at s1
    rw [List.getElem?_set_ne n2] at s2
    exact r.dis i k p ds es hik q1 q2 s1 s2
  nod := by
    obtain ⟨θ, ω, N⟩ := r.nod
    have c1 : ∀ (n : Nat) (x : Nd), (E.set j (.fz d))[n]? = some (Sl.nd x) → E[n]? = some (Sl.nd x) := fun n x q => by
      rcases set_at q with ⟨rfl, e⟩ | ⟨e, q⟩
      · cases e
      · exact q
    refine ⟨θ, ω, N.move c1 (fun i r' q => ?_) (fun n x q a ha => ⟨(N.nd n x (c1 n x q)).1 a ha, fun o z => z⟩) (Ex.refl _) (fun i n ds x p q1 q2 s1 => ?_)⟩
    · rcases set_at q with ⟨rfl, e⟩ | ⟨e, q⟩
      · cases e
      · exact ⟨q, List.getElem?_set_ne e⟩
    · rcases set_at q1 with ⟨rfl, e⟩ | ⟨e, q1⟩
      · cases e
      · rw [List.getElem?_set_ne e] at s1
        exact N.dis i n ds x p q1 (c1 n x q2) s1
/-- a slot is forgotten -/
theorem RE.drop (r : RE K hid O B H σ E) (j : Nat) : RE K hid O B H (σ.set j none) (E.set j .un) where
  base := r.base
  own := r.own
  hidd := r.hidd
  len := by rw [List.length_set, List.length_set]; exact r.len
  fz := fun i d' q => by
    rcases set_at q with ⟨rfl, e⟩ | ⟨e, q⟩
    · cases e
    · rw [List.getElem?_set_ne e]
      exact r.fz i d' q
  ow := fun i ds q => by
    rcases set_at q with ⟨rfl, e⟩ | ⟨e, q⟩
    · cases e
    · rw [List.getElem?_set_ne e]
      exact r.ow i ds q
  dis := fun i k p ds es hik q1 q2 s1 s2 => by
    rcases set_at q1 with ⟨rfl, e⟩ | ⟨n1, q1⟩
    · cases e
    rcases set_at q2 with ⟨rfl, e⟩ | ⟨n2, q2⟩
    · cases e
    rw [List.getElem?_set_ne n1] at s1
    rw [List.getElem?_set_ne n2] at s2
    exact r.dis i k p ds es hik q1 q2 s1 s2
  nod := by
    obtain ⟨θ, ω, N⟩ := r.nod
    have c1 : ∀ (n : Nat) (x : Nd), (E.set j .un)[n]? = some (Sl.nd x) → E[n]? = some (Sl.nd x) := fun n x q => by
      rcases set_at q with ⟨rfl, e⟩ | ⟨e, q⟩
      · cases e
      · exact q
    refine ⟨θ, ω, N.move c1 (fun i r' q => ?_) (fun n x q a ha => ⟨(N.nd n x (c1 n x q)).1 a ha, fun o z => z⟩) (Ex.refl _) (fun i n ds x p q1 q2 s1 => ?_)⟩
    · rcases set_at q with ⟨rfl, e⟩ | ⟨e, q⟩
      · cases e
      · exact ⟨q, List.getElem?_set_ne e⟩
    · rcases set_at q1 with ⟨rfl, e⟩ | ⟨e, q1⟩
      · cases e
      · rw [List.getElem?_set_ne e] at s1
        exact N.dis i n ds x p q1 (c1 n x q2) s1
theorem own_sub {p : Addr} : ∀ a, orS hid (orS O (· = p)) a → orS (orS hid O) (· = p) a := fun a z => by
  rcases z with z | z | z
  · exact .inl (.inl z)
  · exact .inl (.inr z)
  · exact .inr z
theorem own_vis {p : Addr} (hp : H p = none) (e : Ex H H') : Ex (rem (orS hid O) H) (rem (orS hid (orS O (· = p))) H') := fun a o q => rem_sub own_sub _ _ (rem_new (W := orS hid O) hp e a o q)
/-- a new object, owned by no slot -/
theorem RE.addO' (r : RE K hid O B H σ E) {p : Addr} (hp : H p = none) (e : Ex H H') (hx : IsM H' p) : RE K hid (orS O (· = p)) B H' σ E := by
  have vis := own_vis (hid := hid) (O := O) hp e
  refine ⟨fun a o q => ⟨e a o (r.base a o q).1, fun z => ?_⟩, fun a z => ?_, r.hidd, r.len, fun i d q => ?_, fun i es q => ?_, r.dis, ?_⟩
  · rcases z with z | z
    · exact (r.base a o q).2 z
    · subst z
      rw [(r.base _ o q).1] at hp
      cases hp
  · rcases z with z | z
    · exact ⟨(r.own a z).1, (r.own a z).2.mono e⟩
    · subst z
      exact ⟨fun w => r.fresh hp (.inl w), hx⟩
  · obtain ⟨v, h1, h2⟩ := r.fz i d q
    exact ⟨v, h1, h2.mono vis d⟩
  · obtain ⟨q', ys, h1, h2, h3, h4⟩ := r.ow i es q
    exact ⟨q', ys, h1, .inl h2, e _ _ h3, h4.mono vis es⟩
  · obtain ⟨θ, ω, N⟩ := r.nod
    exact ⟨θ, ω, N.move (fun _ _ h => h) (fun _ _ h => ⟨h, rfl⟩) (fun n x h a ha => ⟨.inl ((N.nd n x h).1 a ha), fun o q => e _ o q⟩) vis N.dis⟩
theorem RE.addO (r : RE K hid O B H σ E) {p : Addr} {xs : List V} (hp : H p = none) (e : Ex H H') (hx : H' p = some (.lst xs)) : RE K hid (orS O (· = p)) B H' σ E := r.addO' hp e (.lst hx)
/-- a new list, owned by a slot -/
theorem RE.putO (r : RE K hid O B H σ E) {p : Addr} {xs : List V} {ds : List D} (j : Nat) (hp : H p = none) (e : Ex H H') (hx : H' p = some (.lst xs)) (h : RpL K (rem (orS (orS hid O) (· = p)) H') xs ds) :
    RE K hid (orS O (· = p)) B H' (σ.set j (some (.ref p))) (E.set j (.ow ds)) := by
  have r2 := r.addO hp e hx
  have old : ∀ (i : Nat) (q : Addr) (es : List D), E[i]? = some (.ow es) → σ[i]? = some (some (V.ref q)) → q ≠ p := fun i q es z1 z2 w => by
    subst w
    obtain ⟨q', ys, h1, h2, _⟩ := r.ow i es z1
    rw [z2] at h1
    cases h1
    exact r.fresh hp (.inr h2)
  have oldN : ∀ (θ : Nat → Addr) (ω : Nat → List Addr) (N : NodW K hid O H σ E θ ω) (n : Nat) (x : Nd), E[n]? = some (Sl.nd x) → p ∉ θ n :: ω n := fun θ ω N n x z w => r.fresh hp (.inr ((N.nd n x z).1 p w))
  refine ⟨r2.base, r2.own, r2.hidd, ?_, fun i d q => ?_, fun i es q => ?_, fun i k q es fs hik q1 q2 s1 s2 => ?_, ?_⟩
  · rw [List.length_set, List.length_set]
    exact r.len
  · rcases set_at q with ⟨rfl, z⟩ | ⟨z, q⟩
    · cases z
    · rw [List.getElem?_set_ne z]
      exact r2.fz i d q
  · have hl : i < E.length := by
      have := (List.getElem?_eq_some_iff.mp q).1
      rwa [List.length_set] at this
    rcases set_at q with ⟨rfl, z⟩ | ⟨z, q⟩
    · cases z
      exact ⟨p, xs, List.getElem?_set_self (r.len ▸ hl), .inr rfl, hx, h.mono (rem_sub own_sub) ds⟩
    · rw [List.getElem?_set_ne z]
      exact r2.ow i es q
  · have hl1 : i < E.length := by
      have := (List.getElem?_eq_some_iff.mp q1).1
      rwa [List.length_set] at this
    have hl2 : k < E.length := by
      have := (List.getElem?_eq_some_iff.mp q2).1
      rwa [List.length_set] at this
    rcases set_at q1 with ⟨rfl, z⟩ | ⟨z1, q1⟩
    · rw [List.getElem?_set_self (r.len ▸ hl1)] at s1
      cases s1
      rcases set_at q2 with ⟨z2, _⟩ | ⟨z2, q2⟩
      · exact hik z2
      · rw [List.getElem?_set_ne z2] at s2
        exact old k _ fs q2 s2 rfl
    · rw [List.getElem?_set_ne z1] at s1
      rcases set_at q2 with ⟨rfl, z⟩ | ⟨z2, q2⟩
      · rw [List.getElem?_set_self (r.len ▸ hl2)] at s2
        cases s2
        exact old i _ es q1 s1 rfl
      · rw [List.getElem?_set_ne z2] at s2
        exact r.dis i k q es fs hik q1 q2 s1 s2
  · obtain ⟨θ, ω, N⟩ := r.nod
    have c1 : ∀ (n : Nat) (x : Nd), (E.set j (.ow ds))[n]? = some (Sl.nd x) → E[n]? = some (Sl.nd x) := fun n x q => by
      rcases set_at q with ⟨rfl, z⟩ | ⟨z, q⟩
      · cases z
      · exact q
    refine ⟨θ, ω, N.move c1 (fun i r' q => ?_) (fun n x q a ha => ⟨.inl ((N.nd n x (c1 n x q)).1 a ha), fun o z => e _ o z⟩) (own_vis hp e) (fun i n es x q q1 q2 s1 => ?_)⟩
    · rcases set_at q with ⟨rfl, z⟩ | ⟨z, q⟩
      · cases z
      · exact ⟨q, List.getElem?_set_ne z⟩
    · have hl1 : i < E.length := by
        have := (List.getElem?_eq_some_iff.mp q1).1
        rwa [List.length_set] at this
      rcases set_at q1 with ⟨rfl, z⟩ | ⟨z1, q1⟩
      · rw [List.getElem?_set_self (r.len ▸ hl1)] at s1
        cases s1
        exact oldN θ ω N n x (c1 n x q2)
      · rw [List.getElem?_set_ne z1] at s1
        exact N.dis i n es x q q1 (c1 n x q2) s1
/-- an owned list changes -/
theorem RE.chg (r : RE K hid O B H σ E) {p : Addr} {xs : List V} {ds ds' : List D} {j : Nat} (hj : E[j]? = some (.ow ds)) (hs : σ[j]? = some (some (.ref p))) (h : RpL K (rem (orS hid O) H) xs ds') :
    RE K hid O B (upd H p (.lst xs)) σ (E.set j (.ow ds')) := by
  obtain ⟨p', xs0, g1, hO, hH, g4⟩ := r.ow j ds hj
  rw [hs] at g1
  cases g1
  have vis : Ex (rem (orS hid O) H) (rem (orS hid O) (upd H p (.lst xs))) := rem_upd (.inr hO)
  have eo : ∀ a o, a ≠ p → H a = some o → upd H p (.lst xs) a = some o := fun a o n q => by rw [upd_ne n]; exact q
  refine ⟨fun a o q => ⟨eo a o (fun z => (r.base a o q).2 (z ▸ hO)) (r.base a o q).1, (r.base a o q).2⟩, fun a z => ⟨(r.own a z).1, ?_⟩, r.hidd, ?_, fun i d q => ?_, fun i es q => ?_, fun i k q es fs hik q1 q2 s1 s2 => ?_, ?_⟩
  · by_cases e : a = p
    · subst e
      exact ⟨_, upd_same, trivial⟩
    · obtain ⟨o, q, m⟩ := (r.own a z).2
      exact ⟨o, eo a _ e q, m⟩
  · rw [List.length_set]
    exact r.len
  · rcases set_at q with ⟨rfl, z⟩ | ⟨z, q⟩
    · cases z
    obtain ⟨v, h1, h2⟩ := r.fz i d q
    exact ⟨v, h1, h2.mono vis d⟩
  · rcases set_at q with ⟨rfl, z⟩ | ⟨z, q⟩
    · cases z
      exact ⟨p, xs, hs, hO, upd_same, h.mono vis ds'⟩
    · obtain ⟨q', ys, h1, h2, h3, h4⟩ := r.ow i es q
      have hne : q' ≠ p := fun w => by
        subst w
        exact r.dis j i _ ds es z hj q hs h1
      exact ⟨q', ys, h1, h2, eo _ _ hne h3, h4.mono vis es⟩
  · have old : ∀ (i : Nat) (es : List D), (E.set j (.ow ds'))[i]? = some (Sl.ow es) → ∃ gs, E[i]? = some (Sl.ow gs) := fun i es q => by
      rcases set_at q with ⟨rfl, z⟩ | ⟨z, q⟩
      · exact ⟨ds, hj⟩
      · exact ⟨es, q⟩
    obtain ⟨g1, e1⟩ := old i es q1
    obtain ⟨g2, e2⟩ := old k fs q2
    exact r.dis i k q g1 g2 hik e1 e2 s1 s2
  · obtain ⟨θ, ω, N⟩ := r.nod
    have c1 : ∀ (n : Nat) (x : Nd), (E.set j (.ow ds'))[n]? = some (Sl.nd x) → E[n]? = some (Sl.nd x) := fun n x q => by
      rcases set_at q with ⟨rfl, z⟩ | ⟨z, q⟩
      · cases z
      · exact q
    refine ⟨θ, ω, N.move c1 (fun i r' q => ?_) (fun n x q a ha => ⟨(N.nd n x (c1 n x q)).1 a ha, fun o z => eo _ o (fun w => N.dis j n ds x p hj (c1 n x q) hs (w ▸ ha)) z⟩) vis (fun i n es x q q1 q2 s1 => ?_)⟩
    · rcases set_at q with ⟨rfl, z⟩ | ⟨z, q⟩
      · cases z
      · exact ⟨q, rfl⟩
    · rcases set_at q1 with ⟨rfl, z⟩ | ⟨z1, q1⟩
      · rw [hs] at s1
        cases s1
        exact N.dis j n ds x _ hj (c1 n x q2) hs
      · exact N.dis i n es x q q1 (c1 n x q2) s1
/-- an owned list becomes like any other value -/
theorem RE.frz (r : RE K hid O B H σ E) {ds : List D} {j : Nat} (hj : E[j]? = some (.ow ds)) : ∃ O', RE K hid O' B H σ (E.set j (.fz (.lst ds))) ∧ ∀ a, O' a → O a := by
  obtain ⟨p, xs, hs, hO, hH, h4⟩ := r.ow j ds hj
  have vis : Ex (rem (orS hid O) H) (rem (orS hid fun a => O a ∧ a ≠ p) H) := rem_sub fun a z => z.elim .inl fun z => .inr z.1
  refine ⟨fun a => O a ∧ a ≠ p, ⟨fun a o q => ⟨(r.base a o q).1, fun z => (r.base a o q).2 z.1⟩, fun a z => r.own a z.1, r.hidd, ?_, fun i d q => ?_, fun i es q => ?_, fun i k q es fs hik q1 q2 s1 s2 => ?_, ?_⟩, fun a z => z.1⟩
  · rw [List.length_set]
    exact r.len
  · rcases set_at q with ⟨rfl, z⟩ | ⟨z, q⟩
    · cases z
      refine ⟨.ref p, hs, .lst (rem_some.mpr ⟨fun z => ?_, hH⟩) (h4.mono vis ds)⟩
      rcases z with z | z
      · exact (r.own p hO).1 z
      · exact z.2 rfl
    · obtain ⟨v, h1, h2⟩ := r.fz i d q
      exact ⟨v, h1, h2.mono vis d⟩
  · rcases set_at q with ⟨rfl, z⟩ | ⟨hi, q⟩
    · cases z
    obtain ⟨q', ys, h1, h2, h3, h4'⟩ := r.ow i es q
    exact ⟨q', ys, h1, ⟨h2, fun z => by subst z; exact r.dis j i _ ds es hi hj q hs h1⟩, h3, h4'.mono vis es⟩
  · have n : ∀ (i : Nat) (es : List D), (E.set j (.fz (.lst ds)))[i]? = some (Sl.ow es) → E[i]? = some (Sl.ow es) := fun i es q => by
      rcases set_at q with ⟨rfl, z⟩ | ⟨z, q⟩
      · cases z
      · exact q
    exact r.dis i k q es fs hik (n i es q1) (n k fs q2) s1 s2
  · obtain ⟨θ, ω, N⟩ := r.nod
    have c1 : ∀ (n : Nat) (x : Nd), (E.set j (.fz (.lst ds)))[n]? = some (Sl.nd x) → E[n]? = some (Sl.nd x) := fun n x q => by
      rcases set_at q with ⟨rfl, z⟩ | ⟨z, q⟩
      · cases z
      · exact q
    refine ⟨θ, ω, N.move c1 (fun i r' q => ?_) (fun n x q a ha => ⟨⟨(N.nd n x (c1 n x q)).1 a ha, fun w => N.dis j n ds x p hj (c1 n x q) hs (w ▸ ha)⟩, fun o z => z⟩) vis (fun i n es x q q1 q2 s1 => ?_)⟩
    · rcases set_at q with ⟨rfl, z⟩ | ⟨z, q⟩
      · cases z
      · exact ⟨q, rfl⟩
    · rcases set_at q1 with ⟨rfl, z⟩ | ⟨z1, q1⟩
      · cases z
      · exact N.dis i n es x q q1 (c1 n x q2) s1
/-- the entry of a def -/
theorem start_at {ds : List D} {k i : Nat} {s : Sl} (h : (ds.map Sl.fz ++ List.replicate k Sl.un)[i]? = some s) : (i < ds.length ∧ ∃ d, ds[i]? = some d ∧ s = .fz d) ∨ s = .un := by
  by_cases hi : i < ds.length
  · rw [List.getElem?_append_left (by rw [List.length_map]; exact hi), List.getElem?_map, List.getElem?_eq_getElem hi] at h
    cases h
    exact .inl ⟨hi, _, List.getElem?_eq_getElem hi, rfl⟩
  · rw [List.getElem?_append_right (by rw [List.length_map]; omega), List.getElem?_replicate] at h
    split at h
    · exact .inr (Option.some.inj h).symm
    · cases h
theorem start_nd {ds : List D} {k i : Nat} {x : Nd} (h : (ds.map Sl.fz ++ List.replicate k Sl.un)[i]? = some (Sl.nd x)) : False := by
  rcases start_at h with ⟨_, _, _, z⟩ | z <;> cases z
theorem start_rt {ds : List D} {k i : Nat} {x : R} (h : (ds.map Sl.fz ++ List.replicate k Sl.un)[i]? = some (Sl.rt x)) : False := by
  rcases start_at h with ⟨_, _, _, z⟩ | z <;> cases z
theorem RE.start {vs : List V} {ds : List D} {N : List Str} (hd : ∀ a, hid a → IsM H a) (h : RpL K (rem hid H) vs ds) : RE K hid noS H H (start N vs) (ds.map Sl.fz ++ List.replicate (N.length - ds.length) Sl.un) where
  base := fun a o q => ⟨q, fun z => z⟩
  own := fun a z => z.elim
  hidd := hd
  len := by
    unfold L2.start
    rw [List.length_append, List.length_append, List.length_map, List.length_map, List.length_replicate, List.length_replicate, h.length]
  fz := fun i d q => by
    rcases start_at q with ⟨hi, d', e, z⟩ | z
    · cases z
      obtain ⟨v, e1, e2⟩ := h.get e
      refine ⟨v, ?_, e2.mono (rem_sub fun a z => z.elim id (fun z => z.elim)) _⟩
      unfold L2.start
      rw [List.getElem?_append_left (by rw [List.length_map, h.length]; exact hi), List.getElem?_map, e1]
      rfl
    · cases z
  ow := fun i es q => by
    rcases start_at q with ⟨_, _, _, z⟩ | z <;> cases z
  dis := fun i k p es fs _ q _ _ _ => by
    rcases start_at q with ⟨_, _, _, z⟩ | z <;> cases z
  nod := ⟨fun _ => 0, fun _ => [], fun n x q => (start_nd q).elim, fun n m x y _ q _ => (start_nd q).elim, fun i r q => (start_rt q).elim, fun i n ds x p q1 q _ => (start_nd q).elim⟩
end

/-! ### what holds no owned object -/
mutual
@[simp] def closed : R → Option D
  | .fz d => some d
  | .rf _ => none
  | .tp rs => (closeds rs).map .tup
@[simp] def closeds : List R → Option (List D)
  | [] => some []
  | r :: rs => (closed r).bind fun d => (closeds rs).map (d :: ·)
end
mutual
theorem closed_ok {K : PySem.W.Frag} {H : Hp} {θ : Nat → Addr} : ∀ (r : R) {v : V} {d : D}, ROk K H θ v r → closed r = some d → Rp K H v d
  | .fz d, v, d', h, e => by
    cases h with | fz h => rw [closed] at e; cases e; exact h
  | .rf n, v, d', h, e => by rw [closed] at e; cases e
  | .tp rs, v, d', h, e => by
    rw [closed] at e
    cases e1 : closeds rs with
    | none => rw [e1] at e; cases e
    | some ds =>
      rw [e1] at e
      cases e
      cases h with
      | tp h1 h2 => exact .tup h1 (closeds_ok rs h2 e1)
theorem closeds_ok {K : PySem.W.Frag} {H : Hp} {θ : Nat → Addr} : ∀ (rs : List R) {vs : List V} {ds : List D}, ROks K H θ vs rs → closeds rs = some ds → RpL K H vs ds
  | [], vs, ds, h, e => by
    rw [closeds] at e
    cases e
    cases h
    exact .nil
  | r :: rs, vs, ds, h, e => by
    rw [closeds] at e
    cases e1 : closed r with
    | none => rw [e1] at e; cases e
    | some d =>
      rw [e1] at e
      cases e2 : closeds rs with
      | none => rw [e2] at e; cases e
      | some ds' =>
        rw [e2] at e
        cases e
        cases h with
        | cons h1 h2 => exact .cons (closed_ok r h1 e1) (closeds_ok rs h2 e2)
end
theorem closeds_fz : ∀ (ds : List D), closeds (ds.map .fz) = some ds
  | [] => rfl
  | d :: ds => by
    rw [List.map_cons, closeds, closed, closeds_fz ds]
    rfl
theorem ROks.fz {K : PySem.W.Frag} {H : Hp} {θ : Nat → Addr} : ∀ {vs : List V} {ds : List D}, RpL K H vs ds → ROks K H θ vs (ds.map .fz)
  | _, [], h => by cases h; exact .nil
  | _, d :: ds, h => by
    cases h with
    | cons h1 h2 => exact .cons (.fz h1) (ROks.fz h2)
end Sx

set_option Elab.async false
set_option linter.all false
set_option maxRecDepth 100000
set_option maxHeartbeats 1000000
namespace Sx
open PySem PySem.Spec PyProof.Rows L2
open Evl (Ex)

@[simp] def isN : D → Bool
  | .non => true
  | _ => false
def isN0 : D → Prop
  | .non => False
  | _ => True
/-- the object at v is owned; what it holds is seen -/
def OwT (K : PySem.W.Frag) (O : AS) (H Hv : Hp) (v : V) : D → Prop
  | .lst ds => ∃ p xs, v = .ref p ∧ O p ∧ H p = some (.lst xs) ∧ RpL K Hv xs ds
  | .dct ks ds => ∃ p xs, v = .ref p ∧ O p ∧ H p = some (.dK (ks.zip xs)) ∧ ks.length = xs.length ∧ RpL K Hv xs ds
  | .obj x fs ds => ∃ p dx xs, v = .ref p ∧ O p ∧ H p = some (.ins (He.ga K x) dx (fs.zip xs)) ∧ fs.length = xs.length ∧ RpL K Hv xs ds
  | _ => False
/-- a value; an owned object may be named, too -/
def Tv (K : PySem.W.Frag) (hid O : AS) (H : Hp) (v : V) (d : D) : Prop :=
  Rp K (rem (orS hid O) H) v d ∨ OwT K O H (rem (orS hid O) H) v d
abbrev Al (hid O : AS) (H : Hp) : Prop := ∀ p, H p = none → ¬ orS hid O p
section
variable {K : PySem.W.Frag} {hid O : AS} {B H H' : Hp} {σ : L2.St} {E : En} {v : V} {d : D}
theorem OwT.ref {Hv : Hp} (h : OwT K O H Hv v d) : ∃ p, v = .ref p ∧ O p ∧ (isN0 d) := by
  cases d <;> try exact h.elim
  · obtain ⟨p, xs, h1, h2, _⟩ := h; exact ⟨p, h1, h2, trivial⟩
  · obtain ⟨p, xs, h1, h2, _⟩ := h; exact ⟨p, h1, h2, trivial⟩
  · obtain ⟨p, dx, xs, h1, h2, _⟩ := h; exact ⟨p, h1, h2, trivial⟩
theorem Tv.mono (e : Ex H H') (h : Tv K hid O H v d) : Tv K hid O H' v d := by
  rcases h with h | h
  · exact .inl (h.mono (rem_mono e) d)
  · right
    cases d <;> try exact h.elim
    · obtain ⟨p, xs, h1, h2, h3, h4⟩ := h
      exact ⟨p, xs, h1, h2, e p _ h3, h4.mono (rem_mono e) _⟩
    · obtain ⟨p, xs, h1, h2, h3, h4, h5⟩ := h
      exact ⟨p, xs, h1, h2, e p _ h3, h4, h5.mono (rem_mono e) _⟩
    · obtain ⟨p, dx, xs, h1, h2, h3, h4, h5⟩ := h
      exact ⟨p, dx, xs, h1, h2, e p _ h3, h4, h5.mono (rem_mono e) _⟩
theorem Tv.lst {ds : List D} (h : Tv K hid O H v (.lst ds)) : ∃ p xs, v = .ref p ∧ H p = some (.lst xs) ∧ RpL K (rem (orS hid O) H) xs ds := by
  rcases h with h | ⟨p, xs, h2, h3, h4, h5⟩
  · cases h with
    | lst h1 h2 => exact ⟨_, _, rfl, (rem_some.mp h1).2, h2⟩
  · exact ⟨p, xs, h2, h4, h5⟩
theorem Tv.dct {ks : List Key} {ds : List D} (h : Tv K hid O H v (.dct ks ds)) : ∃ p xs, v = .ref p ∧ H p = some (.dK (ks.zip xs)) ∧ ks.length = xs.length ∧ RpL K (rem (orS hid O) H) xs ds := by
  rcases h with h | ⟨p, xs, h2, h3, h4, h5, h6⟩
  · cases h with
    | dct h1 h2 h3 => exact ⟨_, _, rfl, (rem_some.mp h1).2, h2, h3⟩
  · exact ⟨p, xs, h2, h4, h5, h6⟩
theorem Tv.obj {x : Str} {fs : List Str} {ds : List D} (h : Tv K hid O H v (.obj x fs ds)) : ∃ p dx xs, v = .ref p ∧ H p = some (.ins (He.ga K x) dx (fs.zip xs)) ∧ fs.length = xs.length ∧ RpL K (rem (orS hid O) H) xs ds := by
  rcases h with h | ⟨p, dx, xs, h2, h3, h4, h5, h6⟩
  · cases h with
    | obj h1 h2 h3 => exact ⟨_, _, _, rfl, (rem_some.mp h1).2, h2, h3⟩
  · exact ⟨p, dx, xs, h2, h4, h5, h6⟩
theorem Tv.full (h : Tv K hid O H v d) : Rp K H v d := by
  rcases h with h | h
  · exact h.mono rem_ex d
  · cases d <;> try exact h.elim
    · obtain ⟨p, xs, rfl, h2, h3, h4⟩ := h
      exact .lst h3 (h4.mono rem_ex _)
    · obtain ⟨p, xs, rfl, h2, h3, h4, h5⟩ := h
      exact .dct h3 h4 (h5.mono rem_ex _)
    · obtain ⟨p, dx, xs, rfl, h2, h3, h4, h5⟩ := h
      exact .obj h3 h4 (h5.mono rem_ex _)
/-- .. where what is owned, but for p, stays hidden -/
theorem Tv.show (h : Tv K hid O H v d) (hh : ∀ p, O p → ¬ hid p) : Rp K (rem hid H) v d := by
  have sub : Ex (rem (orS hid O) H) (rem hid H) := rem_sub fun a z => .inl z
  rcases h with h | h
  · exact h.mono sub d
  · cases d <;> try exact h.elim
    · obtain ⟨p, xs, rfl, h2, h3, h4⟩ := h
      exact .lst (rem_some.mpr ⟨hh p h2, h3⟩) (h4.mono sub _)
    · obtain ⟨p, xs, rfl, h2, h3, h4, h5⟩ := h
      exact .dct (rem_some.mpr ⟨hh p h2, h3⟩) h4 (h5.mono sub _)
    · obtain ⟨p, dx, xs, rfl, h2, h3, h4, h5⟩ := h
      exact .obj (rem_some.mpr ⟨hh p h2, h3⟩) h4 (h5.mono sub _)
theorem Tv.int {i : Int} (h : Tv K hid O H v (.int i)) : v = .int i := by
  rcases h with h | h
  · cases h; rfl
  · exact h.elim
theorem Tv.bl {i : Bool} (h : Tv K hid O H v (.bl i)) : v = .bl i := by
  rcases h with h | h
  · cases h; rfl
  · exact h.elim
theorem Tv.str {i : Str} (h : Tv K hid O H v (.str i)) : v = .str i := by
  rcases h with h | h
  · cases h; rfl
  · exact h.elim
theorem Tv.non (h : Tv K hid O H v .non) : v = .non := by
  rcases h with h | h
  · cases h; rfl
  · exact h.elim
theorem Tv.tup {ds : List D} (h : Tv K hid O H v (.tup ds)) : ∃ p xs, v = .ref p ∧ SqT K (rem (orS hid O) H) p xs ∧ RpL K (rem (orS hid O) H) xs ds := by
  rcases h with h | h
  · cases h with
    | tup h1 h2 => exact ⟨_, _, rfl, h1, h2⟩
  · exact h.elim
theorem Tv.scr {ns : List Int} (h : Tv K hid O H v (.scr ns)) : ∃ p, v = .ref p ∧ SqL K H p (ns.map V.int) := by
  rcases h with h | h
  · cases h with
    | scr h1 => exact ⟨_, rfl, Evl.ex_l rem_ex h1⟩
  · exact h.elim
theorem al_of (r : RE K hid O B H σ E) : Al hid O H := fun p h => r.fresh h
/-- a list as a sequence to read -/
theorem Tv.seq {ds : List D} (h : Tv K hid O H v (.lst ds)) : ∃ p xs, v = .ref p ∧ SqL K H p xs ∧ RpL K (rem (orS hid O) H) xs ds := by
  obtain ⟨p, xs, e, h1, h2⟩ := h.lst
  exact ⟨p, xs, e, .inl (.inl h1), h2⟩
theorem vis_new {p : Addr} {o : HO} (hn : ¬ orS hid O p) (h : H p = some o) : rem (orS hid O) H p = some o := rem_some.mpr ⟨hn, h⟩
end

/-! ### what simulates what -/
section
variable (K : PySem.W.Frag)
def SE (te : TE) (m : En → Option D) : Prop := ∀ (hid O : AS) (B H : Hp) (σ : L2.St) (E : En) (d : D), RE K hid O B H σ E → m E = some d → ∀ Q : VK, (∀ v H', Ex H H' → Rp K (rem (orS hid O) H') v d → Q v H') → te σ H Q
def ST (te : TE) (m : En → Option D) : Prop := ∀ (hid O : AS) (B H : Hp) (σ : L2.St) (E : En) (d : D), RE K hid O B H σ E → m E = some d → ∀ Q : VK, (∀ v H', Ex H H' → Tv K hid O H' v d → Q v H') → te σ H Q
def SF (te : TE) (m : En → Option (List D)) : Prop := ∀ (hid O : AS) (B H : Hp) (σ : L2.St) (E : En) (ds : List D), RE K hid O B H σ E → m E = some ds → ∀ Q : VK,
  (∀ p xs H', H p = none → Ex H H' → H' p = some (.lst xs) → RpL K (rem (orS (orS hid O) (· = p)) H') xs ds → Q (.ref p) H') → te σ H Q
def SB (tt : TT) (m : En → Option Bool) : Prop := ∀ (hid O : AS) (B H : Hp) (σ : L2.St) (E : En) (b : Bool), RE K hid O B H σ E → m E = some b → ∀ Q : Bool → Hp → Prop, (∀ H', Ex H H' → Q b H') → tt σ H Q
def SA (ta : TA) (m : En → Option (List D)) : Prop := ∀ (hid O : AS) (B H : Hp) (σ : L2.St) (E : En) (ds : List D), RE K hid O B H σ E → m E = some ds → ∀ Q : List V → Hp → Prop, (∀ vs H', Ex H H' → RpL K (rem (orS hid O) H') vs ds → Q vs H') → ta σ H Q
/-- arguments that may name owned lists: told by what the whole heap shows -/
def SAT (ta : TA) (m : En → Option (List D)) : Prop := ∀ (hid O : AS) (B H : Hp) (σ : L2.St) (E : En) (ds : List D), RE K hid O B H σ E → m E = some ds → ∀ Q : List V → Hp → Prop, (∀ vs H', Ex H H' → RpL K H' vs ds → Q vs H') → ta σ H Q
def SO (to : TO) (m : En → Option (Option Int)) : Prop := ∀ (hid O : AS) (B H : Hp) (σ : L2.St) (E : En) (o : Option Int), RE K hid O B H σ E → m E = some o → ∀ Q : Option Int → Hp → Prop, (∀ H', Ex H H' → Q o H') → to σ H Q
/-- an operation by values -/
def OD (r : R2) (f : D → D → Option D) : Prop := ∀ (hid O : AS) (H : Hp) (x y : V) (a b d : D), Al hid O H → Tv K hid O H x a → Tv K hid O H y b → f a b = some d → ∀ Q : VK, (∀ v H', Ex H H' → Rp K (rem (orS hid O) H') v d → Q v H') → r x y H Q
end

/-! ### with the term of the layer; the canonical readings -/
section
variable (K : PySem.W.Frag)
def tE (m : En → Option D) : TE := fun σ H Q => ∃ (hid O : AS) (B : Hp) (E : En) (d : D), RE K hid O B H σ E ∧ m E = some d ∧ ∀ v H', Ex H H' → Rp K (rem (orS hid O) H') v d → Q v H'
def tT (m : En → Option D) : TE := fun σ H Q => ∃ (hid O : AS) (B : Hp) (E : En) (d : D), RE K hid O B H σ E ∧ m E = some d ∧ ∀ v H', Ex H H' → Tv K hid O H' v d → Q v H'
def tF (m : En → Option (List D)) : TE := fun σ H Q => ∃ (hid O : AS) (B : Hp) (E : En) (ds : List D), RE K hid O B H σ E ∧ m E = some ds ∧ ∀ p xs H', H p = none → Ex H H' → H' p = some (.lst xs) → RpL K (rem (orS (orS hid O) (· = p)) H') xs ds → Q (.ref p) H'
def tBq (m : En → Option Bool) : TT := fun σ H Q => ∃ (hid O : AS) (B : Hp) (E : En) (b : Bool), RE K hid O B H σ E ∧ m E = some b ∧ ∀ H', Ex H H' → Q b H'
def tAq (m : En → Option (List D)) : TA := fun σ H Q => ∃ (hid O : AS) (B : Hp) (E : En) (ds : List D), RE K hid O B H σ E ∧ m E = some ds ∧ ∀ vs H', Ex H H' → RpL K (rem (orS hid O) H') vs ds → Q vs H'
def tATq (m : En → Option (List D)) : TA := fun σ H Q => ∃ (hid O : AS) (B : Hp) (E : En) (ds : List D), RE K hid O B H σ E ∧ m E = some ds ∧ ∀ vs H', Ex H H' → RpL K H' vs ds → Q vs H'
def tOq (m : En → Option (Option Int)) : TO := fun σ H Q => ∃ (hid O : AS) (B : Hp) (E : En) (o : Option Int), RE K hid O B H σ E ∧ m E = some o ∧ ∀ H', Ex H H' → Q o H'
end
def DE (X : Cx) (e : Expr) (m : En → Option D) : Prop := ∃ te, PE X e te ∧ SE X.K te m
def DT (X : Cx) (e : Expr) (m : En → Option D) : Prop := ∃ te, PE X e te ∧ ST X.K te m
def DF (X : Cx) (e : Expr) (m : En → Option (List D)) : Prop := ∃ te, PE X e te ∧ SF X.K te m
def DB (X : Cx) (e : Expr) (m : En → Option Bool) : Prop := ∃ tt, PT X e tt ∧ SB X.K tt m
def DW (X : Cx) (e : Expr) (m : En → Option Bool) : Prop := ∃ tt, PW X e tt ∧ SB X.K tt m
def DA (X : Cx) (es : List Expr) (m : En → Option (List D)) : Prop := ∃ ta, PA X es ta ∧ SA X.K ta m
def DAT (X : Cx) (es : List Expr) (m : En → Option (List D)) : Prop := ∃ ta, PA X es ta ∧ SAT X.K ta m
def DO (X : Cx) (e : Option Expr) (m : En → Option (Option Int)) : Prop := ∃ to, PO X e to ∧ SO X.K to m
section
variable {X : Cx} {e : Expr} {es : List Expr} {oe : Option Expr} {m : En → Option D} {mf : En → Option (List D)} {mb : En → Option Bool} {mo : En → Option (Option Int)}
theorem DE.pe (h : DE X e m) : PE X e (tE X.K m) := by
  obtain ⟨te, p, s⟩ := h
  exact ⟨fun pins s0 σ H Q I h => p.run pins s0 σ H Q I (by obtain ⟨hid, O, B, E, d, r, hm, q⟩ := h; exact s hid O B H σ E d r hm Q q)⟩
theorem DE.si (h : DE X e m) : SE X.K (tE X.K m) m := fun hid O B H σ E d r hm Q q => ⟨hid, O, B, E, d, r, hm, q⟩
theorem DT.pe (h : DT X e m) : PE X e (tT X.K m) := by
  obtain ⟨te, p, s⟩ := h
  exact ⟨fun pins s0 σ H Q I h => p.run pins s0 σ H Q I (by obtain ⟨hid, O, B, E, d, r, hm, q⟩ := h; exact s hid O B H σ E d r hm Q q)⟩
theorem DT.si (h : DT X e m) : ST X.K (tT X.K m) m := fun hid O B H σ E d r hm Q q => ⟨hid, O, B, E, d, r, hm, q⟩
theorem DF.pe (h : DF X e mf) : PE X e (tF X.K mf) := by
  obtain ⟨te, p, s⟩ := h
  exact ⟨fun pins s0 σ H Q I h => p.run pins s0 σ H Q I (by obtain ⟨hid, O, B, E, d, r, hm, q⟩ := h; exact s hid O B H σ E d r hm Q q)⟩
theorem DF.si (h : DF X e mf) : SF X.K (tF X.K mf) mf := fun hid O B H σ E d r hm Q q => ⟨hid, O, B, E, d, r, hm, q⟩
theorem DB.pt (h : DB X e mb) : PT X e (tBq X.K mb) := by
  obtain ⟨te, p, s⟩ := h
  exact ⟨fun pins s0 σ H Q I h => p.run pins s0 σ H Q I (by obtain ⟨hid, O, B, E, d, r, hm, q⟩ := h; exact s hid O B H σ E d r hm Q q)⟩
theorem DB.si (h : DB X e mb) : SB X.K (tBq X.K mb) mb := fun hid O B H σ E d r hm Q q => ⟨hid, O, B, E, d, r, hm, q⟩
theorem DW.pw (h : DW X e mb) : PW X e (tBq X.K mb) := by
  obtain ⟨te, p, s⟩ := h
  exact ⟨fun w pins s0 σ H Q I h => p.run w pins s0 σ H Q I (by obtain ⟨hid, O, B, E, d, r, hm, q⟩ := h; exact s hid O B H σ E d r hm Q q)⟩
theorem DW.si (h : DW X e mb) : SB X.K (tBq X.K mb) mb := fun hid O B H σ E d r hm Q q => ⟨hid, O, B, E, d, r, hm, q⟩
theorem DA.pa (h : DA X es mf) : PA X es (tAq X.K mf) := by
  obtain ⟨te, p, s⟩ := h
  exact ⟨fun w pins s0 σ H Q I h => p.run w pins s0 σ H Q I (by obtain ⟨hid, O, B, E, d, r, hm, q⟩ := h; exact s hid O B H σ E d r hm Q q)⟩
theorem DA.si (h : DA X es mf) : SA X.K (tAq X.K mf) mf := fun hid O B H σ E d r hm Q q => ⟨hid, O, B, E, d, r, hm, q⟩
theorem DAT.pa (h : DAT X es mf) : PA X es (tATq X.K mf) := by
  obtain ⟨te, p, s⟩ := h
  exact ⟨fun w pins s0 σ H Q I h => p.run w pins s0 σ H Q I (by obtain ⟨hid, O, B, E, d, r, hm, q⟩ := h; exact s hid O B H σ E d r hm Q q)⟩
theorem DAT.si (h : DAT X es mf) : SAT X.K (tATq X.K mf) mf := fun hid O B H σ E d r hm Q q => ⟨hid, O, B, E, d, r, hm, q⟩
theorem DO.po (h : DO X oe mo) : PO X oe (tOq X.K mo) := by
  obtain ⟨te, p, s⟩ := h
  exact ⟨fun pins s0 σ H Q I h => p.run pins s0 σ H Q I (by obtain ⟨hid, O, B, E, d, r, hm, q⟩ := h; exact s hid O B H σ E d r hm Q q)⟩
theorem DO.si (h : DO X oe mo) : SO X.K (tOq X.K mo) mo := fun hid O B H σ E d r hm Q q => ⟨hid, O, B, E, d, r, hm, q⟩
end

/-! ### the mirrors -/
@[simp] def ndT : Nd → Option D
  | .lst rs => (closeds rs).map .lst
  | .dct ks rs => (closeds rs).map (.dct ks)
  | .obj _ x fs rs => (closeds rs).map (.obj x fs)
  | .ll _ => none
@[simp] def rT (E : En) : R → Option D
  | .fz d => some d
  | .rf n => match E[n]? with
    | some (.nd x) => ndT x
    | _ => none
  | .tp rs => (closeds rs).map .tup
@[simp] def mVar (i : Nat) : En → Option D := fun E => match E[i]? with
  | some (.fz d) => some d
  | some (.rt r) => closed r
  | _ => none
@[simp] def mVarT (i : Nat) : En → Option D := fun E => match E[i]? with
  | some (.fz d) => some d
  | some (.ow ds) => some (.lst ds)
  | some (.rt r) => rT E r
  | _ => none
@[simp] def mC (d : D) : En → Option D := fun _ => some d
@[simp] def mBin (f : D → D → Option D) (a b : En → Option D) : En → Option D := fun E => (a E).bind fun x => (b E).bind fun y => f x y
@[simp] def mUn (f : D → Option D) (a : En → Option D) : En → Option D := fun E => (a E).bind f
@[simp] def mList (a : En → Option (List D)) : En → Option D := fun E => (a E).map .lst
@[simp] def mTup (a : En → Option (List D)) : En → Option D := fun E => (a E).bind fun ds => if ds.length ≤ 100000 then some (.tup ds) else none
@[simp] def mNil : En → Option (List D) := fun _ => some []
@[simp] def mCons (a : En → Option D) (b : En → Option (List D)) : En → Option (List D) := fun E => (a E).bind fun x => (b E).map fun xs => x :: xs
@[simp] def mLst (a : En → Option (List D)) : En → Option (List D) := fun E => (a E).bind fun ds => if ds.length ≤ 100000 then some ds else none

theorem bind_some {α β : Type} {x : Option α} {f : α → Option β} {b : β} (h : x.bind f = some b) : ∃ a, x = some a ∧ f a = some b := by
  cases x with
  | none => cases h
  | some a => exact ⟨a, rfl, h⟩
theorem map_some {α β : Type} {x : Option α} {f : α → β} {b : β} (h : x.map f = some b) : ∃ a, x = some a ∧ f a = b := by
  cases x with
  | none => cases h
  | some a => exact ⟨a, rfl, Option.some.inj h⟩
theorem ite_some {α : Type} {c : Prop} [Decidable c] {x y : α} (h : (if c then some x else none) = some y) : c ∧ x = y := by
  by_cases hc : c
  · rw [if_pos hc] at h
    exact ⟨hc, Option.some.inj h⟩
  · rw [if_neg hc] at h
    cases h

theorem NodW.nodeT {K : PySem.W.Frag} {hid O : AS} {H : Hp} {σ : L2.St} {E : En} {θ : Nat → Addr} {ω : Nat → List Addr} (N : NodW K hid O H σ E θ ω) {n : Nat} {x : Nd} {d : D} (hn : E[n]? = some (.nd x)) (hx : ndT x = some d) : Tv K hid O H (.ref (θ n)) d := by
  obtain ⟨ho, hk⟩ := N.nd n x hn
  have h0 := ho _ (List.mem_cons_self ..)
  cases x with
  | lst rs =>
    obtain ⟨ds, e1, rfl⟩ := map_some hx
    obtain ⟨xs, k1, k2⟩ := hk
    exact .inr ⟨_, xs, rfl, h0, k1, closeds_ok rs k2 e1⟩
  | dct ks rs =>
    obtain ⟨ds, e1, rfl⟩ := map_some hx
    obtain ⟨xs, k1, k2, k3⟩ := hk
    exact .inr ⟨_, xs, rfl, h0, k1, k2, closeds_ok rs k3 e1⟩
  | obj q y fs rs =>
    obtain ⟨ds, e1, rfl⟩ := map_some hx
    obtain ⟨dx, xs, _, k1, k2, k3⟩ := hk
    exact .inr ⟨_, dx, xs, rfl, h0, k1, k2, closeds_ok rs k3 e1⟩
  | ll dss => cases hx
theorem NodW.tv {K : PySem.W.Frag} {hid O : AS} {H : Hp} {σ : L2.St} {E : En} {θ : Nat → Addr} {ω : Nat → List Addr} (N : NodW K hid O H σ E θ ω) {v : V} {r : R} {d : D} (h : ROk K (rem (orS hid O) H) θ v r) (hm : rT E r = some d) : Tv K hid O H v d := by
  cases r with
  | fz d' =>
    cases h with
    | fz h => cases hm; exact .inl h
  | rf n =>
    cases h
    rw [rT] at hm
    split at hm
    · exact N.nodeT ‹_› hm
    · cases hm
  | tp rs =>
    obtain ⟨ds, e1, rfl⟩ := map_some hm
    cases h with
    | tp h1 h2 => exact .inl (.tup h1 (closeds_ok rs h2 e1))
section
variable {X : Cx} {e a b : Expr} {te ta tb : TE} {m ma mb : En → Option D}
theorem DE.t (h : DE X e m) : DT X e m := ⟨_, h.pe, fun hid O B H σ E d r hm Q q => h.si hid O B H σ E d r hm Q fun v H' e x => q v H' e (.inl x)⟩
theorem DF.toE {mf : En → Option (List D)} (h : DF X e mf) : DE X e (mList mf) := ⟨_, h.pe, fun hid O B H σ E d r hm Q q => by
  obtain ⟨ds, h1, rfl⟩ := map_some hm
  exact h.si hid O B H σ E ds r h1 Q fun p xs H' hp ex hx hr => q _ H' ex (.lst (vis_new (r.fresh hp) hx) (hr.mono (rem_sub fun a z => .inl z) ds))⟩
theorem DF.t {mf : En → Option (List D)} (h : DF X e mf) : DT X e (mList mf) := h.toE.t

/-! ### names, constants -/
theorem dt_var (i : Nat) {x : Str} {pos : Pos} (hN : X.N[i]? = some x := by rfl) (hv : Vis X.env.scope x := by first | exact Or.inl rfl | exact Or.inr (Or.inl rfl) | exact Or.inr (Or.inr rfl)) (hd : (x == ("__debug__" : Str)) = false := by decide)
    (hcd : (x == ("__classdict__" : Str)) = false := by decide) : DT X (.Name x pos) (mVarT i) := ⟨_, pe_var hN hv hd hcd, fun hid O B H σ E d r hm Q q => by
  unfold mVarT at hm
  split at hm
  · rename_i d' h
    cases hm
    obtain ⟨v, h1, h2⟩ := r.fz i d h
    exact ⟨v, h1, q v H (Ex.refl H) (.inl h2)⟩
  · rename_i ds h
    cases hm
    obtain ⟨p, xs, h1, h2, h3, h4⟩ := r.ow i ds h
    exact ⟨.ref p, h1, q _ H (Ex.refl H) (.inr ⟨p, xs, rfl, h2, h3, h4⟩)⟩
  · rename_i t h
    obtain ⟨θ, ω, N⟩ := r.nod
    obtain ⟨v, h1, h2⟩ := N.rt i t h
    exact ⟨v, h1, q v H (Ex.refl H) (N.tv h2 hm)⟩
  · cases hm⟩
theorem de_var (i : Nat) {x : Str} {pos : Pos} (hN : X.N[i]? = some x := by rfl) (hv : Vis X.env.scope x := by first | exact Or.inl rfl | exact Or.inr (Or.inl rfl) | exact Or.inr (Or.inr rfl)) (hd : (x == ("__debug__" : Str)) = false := by decide)
    (hcd : (x == ("__classdict__" : Str)) = false := by decide) : DE X (.Name x pos) (mVar i) := ⟨_, pe_var hN hv hd hcd, fun hid O B H σ E d r hm Q q => by
  unfold mVar at hm
  split at hm
  · rename_i d' h
    cases hm
    obtain ⟨v, h1, h2⟩ := r.fz i d h
    exact ⟨v, h1, q v H (Ex.refl H) h2⟩
  · rename_i t h
    obtain ⟨θ, ω, N⟩ := r.nod
    obtain ⟨v, h1, h2⟩ := N.rt i t h
    exact ⟨v, h1, q v H (Ex.refl H) (closed_ok t h2 hm)⟩
  · cases hm⟩
theorem se_c {K : PySem.W.Frag} {v : V} {d : D} (h : ∀ H, Rp K H v d) : SE K (tC v) (mC d) := fun hid O B H σ E d' r hm Q q => by
  cases hm
  exact q v H (Ex.refl H) (h _)
theorem de_int {i j pos} : DE X (.Constant (.int i) j pos) (mC (.int i)) := ⟨_, pe_int, se_c fun _ => .int i⟩
theorem de_bl {b j pos} : DE X (.Constant (.bool b) j pos) (mC (.bl b)) := ⟨_, pe_bl, se_c fun _ => .bl b⟩
theorem de_non {j pos} : DE X (.Constant .none j pos) (mC .non) := ⟨_, pe_non, se_c fun _ => .non⟩
theorem de_str {x j pos} : DE X (.Constant (.str x) j pos) (mC (.str x)) := ⟨_, pe_str, se_c fun _ => .str x⟩

/-! ### two-place operations -/
theorem st_bin {K : PySem.W.Frag} {r : R2} {f : D → D → Option D} (o : OD K r f) (ha : ST K ta ma) (hb : ST K tb mb) : SE K (tOp r ta tb) (mBin f ma mb) := fun hid O B H σ E d re hm Q q => by
  obtain ⟨x, h1, hm⟩ := bind_some hm
  obtain ⟨y, h2, hm⟩ := bind_some hm
  refine ha hid O B H σ E x re h1 _ fun v H1 e1 r1 => ?_
  refine hb hid O B H1 σ E y (re.grow e1) h2 _ fun u H2 e2 r2 => ?_
  exact o hid O H2 v u x y d (al_of (re.grow (e1.trans e2))) (r1.mono e2) r2 hm Q fun w H3 e3 r3 => q w H3 ((e1.trans e2).trans e3) r3
theorem de_op {op : Operator} {r : R2} {f : D → D → Option D} {pos : Pos} (ho : OpR X (binaryOp op) r) (o : OD X.K r f) (ha : DT X a ma) (hb : DT X b mb) : DE X (.BinOp a op b pos) (mBin f ma mb) :=
  ⟨_, pe_op ho ha.pe hb.pe, st_bin o ha.si hb.si⟩
theorem OD.or {K : PySem.W.Frag} {r r' : R2} {f g h : D → D → Option D} (o : OD K r f) (o' : OD K r' g) (c : ∀ a b d, h a b = some d → f a b = some d ∨ g a b = some d) : OD K (fun x y H Q => r x y H Q ∨ r' x y H Q) h := fun hid O H x y a b d al ra rb hm Q q => by
  rcases c a b d hm with z | z
  · exact .inl (o hid O H x y a b d al ra rb z Q q)
  · exact .inr (o' hid O H x y a b d al ra rb z Q q)
@[simp] def intOp (g : Int → Int → D) : D → D → Option D
  | .int i, .int j => some (g i j)
  | _, _ => none
@[simp] def intOpC (c : Int → Int → Bool) (g : Int → Int → D) : D → D → Option D
  | .int i, .int j => if c i j = true then some (g i j) else none
  | _, _ => none
theorem intOp_some {g : Int → Int → D} {a b d : D} (h : intOp g a b = some d) : ∃ i j, a = .int i ∧ b = .int j ∧ g i j = d := by
  unfold intOp at h
  split at h
  · exact ⟨_, _, rfl, rfl, Option.some.inj h⟩
  · cases h
theorem intOpC_some {c : Int → Int → Bool} {g : Int → Int → D} {a b d : D} (h : intOpC c g a b = some d) : ∃ i j, a = .int i ∧ b = .int j ∧ c i j = true ∧ g i j = d := by
  unfold intOpC at h
  split at h
  · obtain ⟨h1, h2⟩ := ite_some h
    exact ⟨_, _, rfl, rfl, h1, h2⟩
  · cases h
theorem od_I0 {K : PySem.W.Frag} {g : Int → Int → V} {f : Int → Int → D} (h : ∀ i j H, Rp K H (g i j) (f i j)) : OD K (rI0 g) (intOp f) := fun hid O H x y a b d al ra rb hm Q q => by
  obtain ⟨i, j, rfl, rfl, rfl⟩ := intOp_some hm
  exact ⟨i, j, ra.int, rb.int, q _ H (Ex.refl H) (h i j _)⟩
theorem od_I {K : PySem.W.Frag} {C : Int → Int → Prop} {c : Int → Int → Bool} {g : Int → Int → V} {f : Int → Int → D} (hc : ∀ i j, c i j = true → C i j) (h : ∀ i j H, Rp K H (g i j) (f i j)) : OD K (rI C g) (intOpC c f) := fun hid O H x y a b d al ra rb hm Q q => by
  obtain ⟨i, j, rfl, rfl, z, rfl⟩ := intOpC_some hm
  exact ⟨i, j, ra.int, rb.int, hc i j z, q _ H (Ex.refl H) (h i j _)⟩
@[simp] def addD : D → D → Option D
  | .int i, .int j => some (.int (i + j))
  | .str a, .str b => if a.length + b.length ≤ 100000 then some (.str (a ++ b)) else none
  | .lst a, .lst b => if a.length + b.length ≤ 100000 then some (.lst (a ++ b)) else none
  | .tup a, .tup b => if a.length + b.length ≤ 100000 then some (.tup (a ++ b)) else none
  | _, _ => none
@[simp] def catD : D → D → Option (List D)
  | .lst a, .lst b => if a.length + b.length ≤ 100000 then some (a ++ b) else none
  | _, _ => none
theorem catD_some {a b : D} {ds : List D} (h : catD a b = some ds) : ∃ x y, a = .lst x ∧ b = .lst y ∧ x.length + y.length ≤ 100000 ∧ x ++ y = ds := by
  unfold catD at h
  split at h
  · obtain ⟨h1, h2⟩ := ite_some h
    exact ⟨_, _, rfl, rfl, h1, h2⟩
  · cases h
theorem size_le {n : Nat} (h : n ≤ 100000) : n ≤ sizeLine := Nat.le_trans h (by decide)
theorem size_lt {n : Nat} (h : n < 100000) : n < sizeLine := Nat.lt_of_lt_of_le h (by decide)
abbrev rAddS : R2 := fun x y H Q => ∃ i j, x = .str i ∧ y = .str j ∧ i.length + j.length ≤ sizeLine ∧ Q (.str (i ++ j)) H
abbrev rAddAll (K : PySem.W.Frag) : R2 := fun x y H Q => rI0 (fun i j => .int (i + j)) x y H Q ∨ (rAddS x y H Q ∨ (rCat x y H Q ∨ rCatA K x y H Q))
theorem op_addAll : OpR X (binaryOp .Add) (rAddAll X.K) := OpR.or op_add (OpR.or op_add_str (OpR.or op_cat op_catA))
theorem od_add {K : PySem.W.Frag} : OD K (rAddAll K) addD := fun hid O H x y a b d al ra rb hm Q q => by
  unfold addD at hm
  split at hm
  · cases hm
    exact .inl ⟨_, _, ra.int, rb.int, q _ H (Ex.refl H) (.int _)⟩
  · obtain ⟨h1, rfl⟩ := ite_some hm
    exact .inr (.inl ⟨_, _, ra.str, rb.str, size_le h1, q _ H (Ex.refl H) (.str _)⟩)
  · obtain ⟨h1, rfl⟩ := ite_some hm
    obtain ⟨p, xs, rfl, p1, p2⟩ := ra.lst
    obtain ⟨p', ys, rfl, p1', p2'⟩ := rb.lst
    refine .inr (.inr (.inl ⟨p, p', xs, ys, rfl, rfl, p1, p1', by rw [p2.length, p2'.length]; exact size_le h1, fun l hl => ?_⟩))
    have ex : Ex H (upd H l (.lst (xs ++ ys))) := Ex.new hl
    exact q _ _ ex (.lst (vis_new (al l hl) upd_same) ((p2.app p2').mono (rem_mono ex) _))
  · obtain ⟨h1, rfl⟩ := ite_some hm
    obtain ⟨p, xs, rfl, p1, p2⟩ := ra.tup
    obtain ⟨p', ys, rfl, p1', p2'⟩ := rb.tup
    refine .inr (.inr (.inr ⟨p, p', xs, ys, rfl, rfl, Evl.ex_t rem_ex p1, Evl.ex_t rem_ex p1', by rw [p2.length, p2'.length]; exact size_le h1, fun z => ?_, fun z1 z2 => ?_, fun z1 z2 l hl => ?_⟩))
    · subst z
      cases p2
      exact q _ H (Ex.refl H) (.tup p1' p2')
    · subst z2
      cases p2'
      rw [List.append_nil] at q
      exact q _ H (Ex.refl H) (.tup p1 p2)
    · have ex : Ex H (upd H l (.tup (xs ++ ys))) := Ex.new hl
      exact q _ _ ex (.tup (Evl.st_of (vis_new (al l hl) upd_same)) ((p2.app p2').mono (rem_mono ex) _))
  · cases hm
theorem de_add {pos : Pos} (ha : DT X a ma) (hb : DT X b mb) : DE X (.BinOp a .Add b pos) (mBin addD ma mb) := de_op op_addAll od_add ha hb
theorem df_add {pos : Pos} (ha : DT X a ma) (hb : DT X b mb) : DF X (.BinOp a .Add b pos) (fun E => (ma E).bind fun x => (mb E).bind fun y => catD x y) := ⟨_, pe_op op_cat ha.pe hb.pe, fun hid O B H σ E ds re hm Q q => by
  obtain ⟨x, h1, hm⟩ := bind_some hm
  obtain ⟨y, h2, hm⟩ := bind_some hm
  obtain ⟨as, bs, rfl, rfl, h3, rfl⟩ := catD_some hm
  refine ha.si hid O B H σ E _ re h1 _ fun v H1 e1 r1 => ?_
  refine hb.si hid O B H1 σ E _ (re.grow e1) h2 _ fun u H2 e2 r2 => ?_
  obtain ⟨p, xs, rfl, p1, p2⟩ := (r1.mono e2).lst
  obtain ⟨p', ys, rfl, p1', p2'⟩ := r2.lst
  refine ⟨p, p', xs, ys, rfl, rfl, p1, p1', by rw [p2.length, p2'.length]; exact size_le h3, fun l hl => ?_⟩
  have ex : Ex H2 (upd H2 l (.lst (xs ++ ys))) := Ex.new hl
  exact q l _ _ (Evl.fresh_back (e1.trans e2) hl) ((e1.trans e2).trans ex) upd_same ((p2.app p2').mono (rem_new hl ex) _)⟩
theorem de_sub {pos : Pos} (ha : DT X a ma) (hb : DT X b mb) : DE X (.BinOp a .Sub b pos) (mBin (intOp fun i j => .int (i - j)) ma mb) := de_op op_sub (od_I0 fun i j _ => .int _) ha hb
def mulOk (i j : Int) : Bool := decide (i.natAbs < 2 ^ 64) || decide (j.natAbs < 2 ^ 64)
theorem mulOk_C {i j : Int} (h : mulOk i j = true) : CMul i j := by
  unfold mulOk at h
  rcases Bool.or_eq_true_iff.mp h with h | h
  · have h := of_decide_eq_true h
    exact .inl (by omega)
  · have h := of_decide_eq_true h
    exact .inr (by omega)
theorem de_mul {pos : Pos} (ha : DT X a ma) (hb : DT X b mb) : DE X (.BinOp a .Mult b pos) (mBin (intOpC mulOk fun i j => .int (i * j)) ma mb) := de_op op_mul (od_I (fun _ _ => mulOk_C) fun i j _ => .int _) ha hb
def divOk (_ j : Int) : Bool := decide (0 < j) && decide (j < 1073741824)
theorem de_fdiv {pos : Pos} (ha : DT X a ma) (hb : DT X b mb) : DE X (.BinOp a .FloorDiv b pos) (mBin (intOpC divOk fun i j => .int (i / j)) ma mb) :=
  de_op op_fdiv (od_I (fun i j h => by
    unfold divOk at h
    obtain ⟨h1, h2⟩ := Bool.and_eq_true_iff.mp h
    exact ⟨of_decide_eq_true h1, of_decide_eq_true h2⟩) fun i j _ => .int _) ha hb
theorem de_mod {pos : Pos} (ha : DT X a ma) (hb : DT X b mb) : DE X (.BinOp a .Mod b pos) (mBin (intOpC (fun _ j => decide (0 < j)) fun i j => .int (i % j)) ma mb) :=
  de_op op_mod (od_I (fun i j h => of_decide_eq_true h) fun i j _ => .int _) ha hb
def powOk (i j : Int) : Bool := decide (0 ≤ j) && decide (j ≤ 1000000) && decide (i.natAbs < 2 ^ 64)
theorem de_pow {pos : Pos} (ha : DT X a ma) (hb : DT X b mb) : DE X (.BinOp a .Pow b pos) (mBin (intOpC powOk fun i j => .int (i ^ j.toNat)) ma mb) :=
  de_op op_pow (od_I (fun i j h => by
    unfold powOk at h
    obtain ⟨h0, h3⟩ := Bool.and_eq_true_iff.mp h
    obtain ⟨h1, h2⟩ := Bool.and_eq_true_iff.mp h0
    exact ⟨of_decide_eq_true h1, of_decide_eq_true h2, of_decide_eq_true h3⟩) fun i j _ => .int _) ha hb
/-- a list times an int -/
@[simp] def repD : D → D → Option (List D)
  | .lst a, .int k => if k ≤ 100000 ∧ a.length * k.toNat ≤ 100000 ∧ -100000 ≤ k then some (List.replicate k.toNat a).flatten else none
  | _, _ => none
theorem repD_some {a b : D} {ds : List D} (h : repD a b = some ds) : ∃ x k, a = .lst x ∧ b = .int k ∧ k ≤ 100000 ∧ x.length * k.toNat ≤ 100000 ∧ -100000 ≤ k ∧ (List.replicate k.toNat x).flatten = ds := by
  unfold repD at h
  split at h
  · obtain ⟨⟨h1, h2, h3⟩, h4⟩ := ite_some h
    exact ⟨_, _, rfl, rfl, h1, h2, h3, h4⟩
  · cases h
theorem df_rep {pos : Pos} (ha : DT X a ma) (hb : DT X b mb) : DF X (.BinOp a .Mult b pos) (fun E => (ma E).bind fun x => (mb E).bind fun y => repD x y) := ⟨_, pe_op op_rep ha.pe hb.pe, fun hid O B H σ E ds re hm Q q => by
  obtain ⟨x, h1, hm⟩ := bind_some hm
  obtain ⟨y, h2, hm⟩ := bind_some hm
  obtain ⟨as, k, rfl, rfl, h3, h4, h5, rfl⟩ := repD_some hm
  · refine ha.si hid O B H σ E _ re h1 _ fun v H1 e1 r1 => ?_
    refine hb.si hid O B H1 σ E _ (re.grow e1) h2 _ fun u H2 e2 r2 => ?_
    obtain ⟨p, xs, rfl, p1, p2⟩ := (r1.mono e2).lst
    obtain rfl := r2.int
    refine ⟨p, k, xs, rfl, rfl, p1, by omega, by omega, by rw [p2.length]; exact size_le h4, fun l hl => ?_⟩
    have ex : Ex H2 (upd H2 l (.lst (List.replicate k.toNat xs).flatten)) := Ex.new hl
    exact q l _ _ (Evl.fresh_back (e1.trans e2) hl) ((e1.trans e2).trans ex) upd_same ((RpL.rep k.toNat p2).mono (rem_new hl ex) _)⟩
/-- - x -/
@[simp] def negD : D → Option D
  | .int i => some (.int (-i))
  | _ => none
theorem de_neg {pos : Pos} (ha : DT X a ma) : DE X (.UnaryOp .USub a pos) (mUn negD ma) := ⟨_, pe_un un_neg ha.pe, fun hid O B H σ E d re hm Q q => by
  obtain ⟨x, h1, hm⟩ := bind_some hm
  unfold negD at hm
  split at hm
  · cases hm
    refine ha.si hid O B H σ E _ re h1 _ fun v H1 e1 r1 => ?_
    exact ⟨_, r1.int, q _ H1 e1 (.int _)⟩
  · cases hm⟩

/-! ### comparisons -/
def bI (g : Int → Int → Bool) : Int → Int → D := fun i j => .bl (g i j)
theorem od_lt {K : PySem.W.Frag} : OD K (rI0 fun i j => .bl (decide (i < j))) (intOp fun i j => .bl (decide (i < j))) := od_I0 fun i j _ => .bl _
theorem od_le {K : PySem.W.Frag} : OD K (rI0 fun i j => .bl (decide (i ≤ j))) (intOp fun i j => .bl (decide (i ≤ j))) := od_I0 fun i j _ => .bl _
theorem od_gt {K : PySem.W.Frag} : OD K (rI0 fun i j => .bl (decide (j < i))) (intOp fun i j => .bl (decide (j < i))) := od_I0 fun i j _ => .bl _
theorem od_ge {K : PySem.W.Frag} : OD K (rI0 fun i j => .bl (decide (j ≤ i))) (intOp fun i j => .bl (decide (j ≤ i))) := od_I0 fun i j _ => .bl _
mutual
def D.py : D → PyData
  | .non => .none
  | .bl b => .bool b
  | .int i => .int i
  | .str x => .str x
  | .lst xs => .list (D.pys xs)
  | .tup xs => .tuple (D.pys xs)
  | .scr ns => .list (ns.map .int)
  | .dct _ _ => .dict []
  | .obj _ _ _ => .dict []
def D.pys : List D → List PyData
  | [] => []
  | d :: ds => D.py d :: D.pys ds
end
section
variable {K : PySem.W.Frag} {H : Hp}
theorem dp_ints : ∀ (ns : List Int), DpAll K H (ns.map V.int) (ns.map PyData.int)
  | [] => .nil
  | n :: ns => .cons (.int n) (dp_ints ns)
mutual
theorem Rp.dp : ∀ (d : D) {v : V}, PyData.canLay0 d.py = true → Rp K H v d → Dp K H v d.py
  | .non, _, _, h => by cases h; exact .non
  | .bl b, _, _, h => by cases h; exact .bl b
  | .int i, _, _, h => by cases h; exact .int i
  | .str x, _, _, h => by cases h; exact .str x
  | .lst ds, _, c, h => by
    cases h with
    | lst h1 h2 =>
      rw [D.py] at c ⊢
      exact .lst (.inl (.inl h1)) (RpL.dp ds (by simpa [PyData.canLay0] using c) h2)
  | .tup ds, _, c, h => by
    cases h with
    | tup h1 h2 =>
      rw [D.py] at c ⊢
      exact .tup h1 (RpL.dp ds (by simpa [PyData.canLay0] using c) h2)
  | .scr ns, _, _, h => by
    cases h with
    | scr h1 =>
      rw [D.py]
      exact .lst h1 (dp_ints ns)
  | .dct _ _, _, c, _ => by
    rw [D.py] at c
    simp [PyData.canLay0] at c
  | .obj _ _ _, _, c, _ => by
    rw [D.py] at c
    simp [PyData.canLay0] at c
theorem RpL.dp : ∀ (ds : List D) {vs : List V}, PyData.canLayAll0 (D.pys ds) = true → RpL K H vs ds → DpAll K H vs (D.pys ds)
  | [], _, _, h => by
    cases h
    rw [D.pys]
    exact .nil
  | d :: ds, _, c, h => by
    cases h with
    | cons h1 h2 =>
      rw [D.pys] at c ⊢
      rw [PyData.canLayAll0, Bool.and_eq_true] at c
      exact .cons (Rp.dp d c.1 h1) (RpL.dp ds c.2 h2)
end
end
@[simp] def eqB : D → D → Option Bool
  | .int i, .int j => some (decide (i = j))
  | .str i, .str j => some (decide (i = j))
  | .bl i, .bl j => some (decide (i = j))
  | .non, .non => some true
  | .non, .int _ => some false
  | .int _, .non => some false
  | a, b => if SeqAt.shaped a.py = true ∧ SeqAt.shaped b.py = true then some (PyData.eqv a.py b.py) else none
@[simp] def eqD (a b : D) : Option D := (eqB a b).map .bl
@[simp] def neD (a b : D) : Option D := (eqB a b).map fun c => .bl (!c)
abbrev rEqAll (K : PySem.W.Frag) : R2 := fun x y H Q => rEq x y H Q ∨ rEqD K x y H Q
abbrev rNeAll (K : PySem.W.Frag) : R2 := fun x y H Q => rNe x y H Q ∨ rNeD K x y H Q
theorem eq_cases {K : PySem.W.Frag} {hid O : AS} {H : Hp} {x y : V} {a b : D} {c : Bool} (ra : Tv K hid O H x a) (rb : Tv K hid O H y b) (h : eqB a b = some c) :
    (scal x y = true ∧ decide (x = y) = c) ∨ (Dp K H x a.py ∧ Dp K H y b.py ∧ SeqAt.shaped a.py = true ∧ SeqAt.shaped b.py = true ∧ PyData.eqv a.py b.py = c) := by
  unfold eqB at h
  split at h
  · obtain rfl := ra.int; obtain rfl := rb.int
    refine .inl ⟨rfl, ?_⟩
    rw [← Option.some.inj h]
    simp only [V.int.injEq]
  · obtain rfl := ra.str; obtain rfl := rb.str
    refine .inl ⟨rfl, ?_⟩
    rw [← Option.some.inj h]
    simp only [V.str.injEq]
  · obtain rfl := ra.bl; obtain rfl := rb.bl
    refine .inl ⟨rfl, ?_⟩
    rw [← Option.some.inj h]
    simp only [V.bl.injEq]
  · obtain rfl := ra.non; obtain rfl := rb.non
    exact .inl ⟨rfl, Option.some.inj h⟩
  · obtain rfl := ra.non; obtain rfl := rb.int
    exact .inl ⟨rfl, Option.some.inj h⟩
  · obtain rfl := ra.int; obtain rfl := rb.non
    exact .inl ⟨rfl, Option.some.inj h⟩
  · obtain ⟨⟨h1, h2⟩, h3⟩ := ite_some h
    exact .inr ⟨Rp.dp _ (SeqAt.canLay_of_shaped h1) ra.full, Rp.dp _ (SeqAt.canLay_of_shaped h2) rb.full, h1, h2, h3⟩
theorem od_eq {K : PySem.W.Frag} : OD K (rEqAll K) eqD := fun hid O H x y a b d al ra rb hm Q q => by
  obtain ⟨c, h, rfl⟩ := map_some hm
  rcases eq_cases ra rb h with ⟨h1, h2⟩ | ⟨h1, h2, h3, h4, h5⟩
  · refine .inl ⟨h1, ?_⟩
    rw [h2]
    exact q _ H (Ex.refl H) (.bl c)
  · refine .inr ⟨_, _, h1, h2, h3, h4, ?_⟩
    rw [h5]
    exact q _ H (Ex.refl H) (.bl c)
theorem od_ne {K : PySem.W.Frag} : OD K (rNeAll K) neD := fun hid O H x y a b d al ra rb hm Q q => by
  obtain ⟨c, h, rfl⟩ := map_some hm
  rcases eq_cases ra rb h with ⟨h1, h2⟩ | ⟨h1, h2, h3, h4, h5⟩
  · refine .inl ⟨h1, ?_⟩
    rw [h2]
    exact q _ H (Ex.refl H) (.bl _)
  · refine .inr ⟨_, _, h1, h2, h3, h4, ?_⟩
    rw [h5]
    exact q _ H (Ex.refl H) (.bl _)
theorem op_eqAll {k : Nat} {A : Around} (hr : Room k A) (hA : X.A = A := by rfl) : OpR X (compareOp .Eq) (rEqAll X.K) := OpR.or op_eq (op_eqD (by rw [hA]; exact hr.units))
theorem op_neAll {k : Nat} {A : Around} (hr : Room k A) (hA : X.A = A := by rfl) : OpR X (compareOp .NotEq) (rNeAll X.K) := OpR.or op_ne (op_neD (by rw [hA]; exact hr.units))
theorem de_cmp {op : CmpOp} {r : R2} {f : D → D → Option D} {pos : Pos} (ho : OpR X (compareOp op) r) (o : OD X.K r f) (ha : DT X a ma) (hb : DT X b mb) (hm : behindInMarks op b = false := by first | exact nomark _ | with_unfolding_all rfl) :
    DE X (.Compare a [op] [b] pos) (mBin f ma mb) := ⟨_, pe_cmpR ho ha.pe hb.pe hm, st_bin o ha.si hb.si⟩
@[simp] def blOf : D → Option Bool
  | .bl b => some b
  | _ => none
theorem blOf_some {d : D} {b : Bool} (h : blOf d = some b) : d = .bl b := by
  unfold blOf at h
  split at h
  · cases h; rfl
  · cases h
theorem db_cmp {op : CmpOp} {r : R2} {f : D → D → Option D} {pos : Pos} (ho : OpR X (compareOp op) r) (o : OD X.K r f) (ha : DT X a ma) (hb : DT X b mb) (hm : behindInMarks op b = false := by first | exact nomark _ | with_unfolding_all rfl) :
    DB X (.Compare a [op] [b] pos) (fun E => (mBin f ma mb E).bind blOf) := ⟨_, pt_cmpR ho ha.pe hb.pe hm, fun hid O B H σ E c re hm Q q => by
  obtain ⟨x, h1, hm⟩ := bind_some hm
  cases blOf_some hm
  exact st_bin o ha.si hb.si hid O B H σ E _ re h1 _ fun v H1 e1 r1 => by
    cases r1
    exact ⟨c, rfl, q H1 e1⟩⟩
/-- a op b op c -/
@[simp] def mChain (f g : D → D → Option D) (a b c : En → Option D) : En → Option D := fun E => (a E).bind fun x => (b E).bind fun y => (f x y).bind fun z => match z with
  | .bl true => (c E).bind fun w => g y w
  | .bl false => some (.bl false)
  | _ => none
theorem st_chain {K : PySem.W.Frag} {r r' : R2} {f g : D → D → Option D} {tc : TE} {mc : En → Option D} (o : OD K r f) (o' : OD K r' g) (ha : ST K ta ma) (hb : ST K tb mb) (hc : ST K tc mc) : SE K (tChain r r' ta tb tc) (mChain f g ma mb mc) := fun hid O B H σ E d re hm Q q => by
  obtain ⟨x, h1, hm⟩ := bind_some hm
  obtain ⟨y, h2, hm⟩ := bind_some hm
  obtain ⟨z, h3, hm⟩ := bind_some hm
  refine ha hid O B H σ E x re h1 _ fun v H1 e1 r1 => ?_
  refine hb hid O B H1 σ E y (re.grow e1) h2 _ fun u H2 e2 r2 => ?_
  refine o hid O H2 v u x y z (al_of (re.grow (e1.trans e2))) (r1.mono e2) r2 h3 _ fun w H3 e3 r3 => ?_
  have e123 := (e1.trans e2).trans e3
  split at hm
  · cases r3
    refine ⟨true, rfl, ?_⟩
    rw [if_pos rfl]
    obtain ⟨w', h4, hm⟩ := bind_some hm
    refine hc hid O B H3 σ E w' (re.grow e123) h4 _ fun u4 H4 e4 r4 => ?_
    exact o' hid O H4 u u4 y w' d (al_of (re.grow (e123.trans e4))) ((r2.mono e3).mono e4) r4 hm Q fun w5 H5 e5 r5 => q w5 H5 ((e123.trans e4).trans e5) r5
  · cases r3
    cases hm
    refine ⟨false, rfl, ?_⟩
    rw [if_neg Bool.false_ne_true]
    exact q _ H3 e123 (.bl false)
  · cases hm
theorem de_chain {op op' : CmpOp} {r r' : R2} {f g : D → D → Option D} {c : Expr} {mc : En → Option D} {pos : Pos} (ho : OpR X (compareOp op) r) (o : OD X.K r f) (ho' : OpR X (compareOp op') r') (o' : OD X.K r' g) (ha : DT X a ma) (hb : DT X b mb) (hc : DT X c mc)
    (hm : lastMarks [op, op'] [b, c] = false := by with_unfolding_all rfl) : DE X (.Compare a [op, op'] [b, c] pos) (mChain f g ma mb mc) := ⟨_, pe_chain ho ho' ha.pe hb.pe hc.pe hm, st_chain o o' ha.si hb.si hc.si⟩
theorem db_chain {op op' : CmpOp} {r r' : R2} {f g : D → D → Option D} {c : Expr} {mc : En → Option D} {pos : Pos} (ho : OpR X (compareOp op) r) (o : OD X.K r f) (ho' : OpR X (compareOp op') r') (o' : OD X.K r' g) (ha : DT X a ma) (hb : DT X b mb) (hc : DT X c mc)
    (hm : lastMarks [op, op'] [b, c] = false := by with_unfolding_all rfl) : DB X (.Compare a [op, op'] [b, c] pos) (fun E => (mChain f g ma mb mc E).bind blOf) := ⟨_, pt_chain ho ho' ha.pe hb.pe hc.pe hm, fun hid O B H σ E c re hm Q q => by
  obtain ⟨x, h1, hm⟩ := bind_some hm
  cases blOf_some hm
  exact st_chain o o' ha.si hb.si hc.si hid O B H σ E _ re h1 _ fun v H1 e1 r1 => by
    cases r1
    exact ⟨c, rfl, q H1 e1⟩⟩
/-- is None, is not None -/
theorem isN_ok {K : PySem.W.Frag} {hid O : AS} {H : Hp} {v : V} {d : D} (h : Tv K hid O H v d) : decide (v = .non) = isN d := by
  rcases h with h | h
  · cases h <;> rfl
  · obtain ⟨p, rfl, _, h⟩ := h.ref
    cases d <;> first | rfl | exact h.elim
theorem de_isN {j pos' pos} (ha : DT X a ma) : DE X (.Compare a [.Is] [.Constant .none j pos'] pos) (mUn (fun d => some (.bl (isN d))) ma) := ⟨_, pe_cmp (pc_isN ha.pe), fun hid O B H σ E d re hm Q q => by
  obtain ⟨x, h1, hm⟩ := bind_some hm
  cases hm
  refine ha.si hid O B H σ E x re h1 _ fun v H1 e1 r1 => ?_
  rw [isN_ok r1]
  exact q _ H1 e1 (.bl _)⟩
theorem de_notN {j pos' pos} (ha : DT X a ma) : DE X (.Compare a [.IsNot] [.Constant .none j pos'] pos) (mUn (fun d => some (.bl (!isN d))) ma) := ⟨_, pe_cmp (pc_notN ha.pe), fun hid O B H σ E d re hm Q q => by
  obtain ⟨x, h1, hm⟩ := bind_some hm
  cases hm
  refine ha.si hid O B H σ E x re h1 _ fun v H1 e1 r1 => ?_
  rw [isN_ok r1]
  exact q _ H1 e1 (.bl _)⟩
theorem db_isN {j pos' pos} (ha : DT X a ma) : DB X (.Compare a [.Is] [.Constant .none j pos'] pos) (fun E => (ma E).map isN) := ⟨_, pt_cmp (pc_isN ha.pe), fun hid O B H σ E d re hm Q q => by
  obtain ⟨x, h1, rfl⟩ := map_some hm
  refine ha.si hid O B H σ E x re h1 _ fun v H1 e1 r1 => ?_
  rw [isN_ok r1]
  exact ⟨_, rfl, q H1 e1⟩⟩
theorem db_notN {j pos' pos} (ha : DT X a ma) : DB X (.Compare a [.IsNot] [.Constant .none j pos'] pos) (fun E => (ma E).map fun d => !isN d) := ⟨_, pt_cmp (pc_notN ha.pe), fun hid O B H σ E d re hm Q q => by
  obtain ⟨x, h1, rfl⟩ := map_some hm
  refine ha.si hid O B H σ E x re h1 _ fun v H1 e1 r1 => ?_
  rw [isN_ok r1]
  exact ⟨_, rfl, q H1 e1⟩⟩

/-! ### truth -/
@[simp] def truD : D → Option Bool
  | .non => some false
  | .bl b => some b
  | .int i => some (i != 0)
  | .str x => if x.length ≤ 100000 then some ((x.length : Int) != 0) else none
  | .lst ds => some (!ds.isEmpty)
  | .tup ds => some (!ds.isEmpty)
  | .scr ns => some (!ns.isEmpty)
  | _ => none
theorem isEmpty_rp {K : PySem.W.Frag} {H : Hp} {vs : List V} {ds : List D} (h : RpL K H vs ds) : (!vs.isEmpty) = !ds.isEmpty := by
  cases h <;> rfl
theorem truD_ok {K : PySem.W.Frag} {hid O : AS} {H : Hp} {v : V} {d : D} {b : Bool} (h : Tv K hid O H v d) (hb : truD d = some b) : TruV K v H b := by
  cases d with
  | non => obtain rfl := h.non; exact (Option.some.inj hb).symm
  | bl c => obtain rfl := h.bl; exact (Option.some.inj hb).symm
  | int i => obtain rfl := h.int; exact (Option.some.inj hb).symm
  | str x =>
    obtain rfl := h.str
    unfold truD at hb
    obtain ⟨h1, h2⟩ := ite_some hb
    exact ⟨size_le h1, h2.symm⟩
  | lst ds =>
    obtain ⟨p, xs, rfl, h1, h2⟩ := h.lst
    exact .inl ⟨xs, .inl (.inl h1), by rw [isEmpty_rp h2]; exact (Option.some.inj hb).symm⟩
  | tup ds =>
    obtain ⟨p, xs, rfl, h1, h2⟩ := h.tup
    exact .inr (.inl ⟨xs, Evl.ex_t rem_ex h1, by rw [isEmpty_rp h2]; exact (Option.some.inj hb).symm⟩)
  | scr ns =>
    obtain ⟨p, rfl, h1⟩ := h.scr
    refine .inl ⟨_, h1, ?_⟩
    rw [← Option.some.inj hb]
    cases ns <;> rfl
  | dct _ _ => cases hb
  | obj _ _ _ => cases hb
/-- any expression whose test is its value's truth -/
theorem db_tru (ha : DT X a ma) (he : ∀ whole, isTrue a X.env whole = (do let v ← whole; standAt a.pos; holding [v] (truthy v)) := by intro _; rfl) : DB X a (fun E => (ma E).bind truD) := ⟨_, pt_truth ha.pe he, fun hid O B H σ E b re hm Q q => by
  obtain ⟨x, h1, hm⟩ := bind_some hm
  exact ha.si hid O B H σ E x re h1 _ fun v H1 e1 r1 => ⟨b, truD_ok r1 hm, q H1 e1⟩⟩
@[simp] def mNot (a : En → Option Bool) : En → Option Bool := fun E => (a E).map (!·)
@[simp] def mAnd (a b : En → Option Bool) : En → Option Bool := fun E => (a E).bind fun x => if x = true then b E else some false
@[simp] def mOr (a b : En → Option Bool) : En → Option Bool := fun E => (a E).bind fun x => if x = true then some true else b E
theorem db_not {m : En → Option Bool} {pos : Pos} (ha : DB X a m) : DB X (.UnaryOp .Not a pos) (mNot m) := ⟨_, pt_not ha.pt, fun hid O B H σ E b re hm Q q => by
  obtain ⟨x, h1, rfl⟩ := map_some hm
  exact ha.si hid O B H σ E x re h1 _ fun H1 e1 => q H1 e1⟩
theorem dw_and1 {m : En → Option Bool} {pos : Pos} (ha : DB X a m) : DW X (.BoolOp .And [a] pos) m := ⟨_, pw_and1 ha.pt, ha.si⟩
theorem dw_or1 {m : En → Option Bool} {pos : Pos} (ha : DB X a m) : DW X (.BoolOp .Or [a] pos) m := ⟨_, pw_or1 ha.pt, ha.si⟩
theorem dw_and {m n : En → Option Bool} {pos : Pos} {rest : List Expr} (ha : DB X a m) (hb : DW X (.BoolOp .And (b :: rest) pos) n) : DW X (.BoolOp .And (a :: b :: rest) pos) (mAnd m n) := ⟨_, pw_and ha.pt hb.pw, fun hid O B H σ E c re hm Q q => by
  obtain ⟨x, h1, hm⟩ := bind_some hm
  refine ha.si hid O B H σ E x re h1 _ fun H1 e1 => ?_
  cases x with
  | true =>
    rw [if_pos rfl] at hm ⊢
    exact hb.si hid O B H1 σ E c (re.grow e1) hm Q fun H2 e2 => q H2 (e1.trans e2)
  | false =>
    rw [if_neg Bool.false_ne_true] at hm ⊢
    cases hm
    exact q H1 e1⟩
theorem dw_or {m n : En → Option Bool} {pos : Pos} {rest : List Expr} (ha : DB X a m) (hb : DW X (.BoolOp .Or (b :: rest) pos) n) : DW X (.BoolOp .Or (a :: b :: rest) pos) (mOr m n) := ⟨_, pw_or ha.pt hb.pw, fun hid O B H σ E c re hm Q q => by
  obtain ⟨x, h1, hm⟩ := bind_some hm
  refine ha.si hid O B H σ E x re h1 _ fun H1 e1 => ?_
  cases x with
  | true =>
    rw [if_pos rfl] at hm ⊢
    cases hm
    exact q H1 e1
  | false =>
    rw [if_neg Bool.false_ne_true] at hm ⊢
    exact hb.si hid O B H1 σ E c (re.grow e1) hm Q fun H2 e2 => q H2 (e1.trans e2)⟩
theorem DW.toB {m : En → Option Bool} (h : DW X e m) : DB X e m := ⟨_, h.pw.pt, h.si⟩
/-- and, or, not as values -/
@[simp] def mAndV (a b : En → Option D) : En → Option D := fun E => (a E).bind fun x => (truD x).bind fun k => if k = true then b E else some x
@[simp] def mOrV (a b : En → Option D) : En → Option D := fun E => (a E).bind fun x => (truD x).bind fun k => if k = true then some x else b E
theorem de_one {op} {pos : Pos} (h : DE X a ma) : DE X (.BoolOp op [a] pos) ma := ⟨_, pe_one h.pe, h.si⟩
theorem de_and {pos : Pos} {rest : List Expr} (ha : DE X a ma) (hb : DE X (.BoolOp .And (b :: rest) pos) mb) : DE X (.BoolOp .And (a :: b :: rest) pos) (mAndV ma mb) := ⟨_, pe_andT ha.pe hb.pe, fun hid O B H σ E d re hm Q q => by
  obtain ⟨x, h1, hm⟩ := bind_some hm
  obtain ⟨k, h2, hm⟩ := bind_some hm
  refine ha.si hid O B H σ E x re h1 _ fun v H1 e1 r1 => ⟨k, truD_ok (.inl r1) h2, ?_⟩
  cases k with
  | true =>
    rw [if_pos rfl] at hm ⊢
    exact hb.si hid O B H1 σ E d (re.grow e1) hm Q fun u H2 e2 r2 => q u H2 (e1.trans e2) r2
  | false =>
    rw [if_neg Bool.false_ne_true] at hm ⊢
    cases hm
    exact q v H1 e1 r1⟩
theorem de_or {pos : Pos} {rest : List Expr} (ha : DE X a ma) (hb : DE X (.BoolOp .Or (b :: rest) pos) mb) : DE X (.BoolOp .Or (a :: b :: rest) pos) (mOrV ma mb) := ⟨_, pe_orT ha.pe hb.pe, fun hid O B H σ E d re hm Q q => by
  obtain ⟨x, h1, hm⟩ := bind_some hm
  obtain ⟨k, h2, hm⟩ := bind_some hm
  refine ha.si hid O B H σ E x re h1 _ fun v H1 e1 r1 => ⟨k, truD_ok (.inl r1) h2, ?_⟩
  cases k with
  | true =>
    rw [if_pos rfl] at hm ⊢
    cases hm
    exact q v H1 e1 r1
  | false =>
    rw [if_neg Bool.false_ne_true] at hm ⊢
    exact hb.si hid O B H1 σ E d (re.grow e1) hm Q fun u H2 e2 r2 => q u H2 (e1.trans e2) r2⟩
theorem de_not {pos : Pos} (ha : DT X a ma) : DE X (.UnaryOp .Not a pos) (mUn (fun d => (truD d).map fun k => .bl (!k)) ma) := ⟨_, pe_notT ha.pe, fun hid O B H σ E d re hm Q q => by
  obtain ⟨x, h1, hm⟩ := bind_some hm
  obtain ⟨k, h2, rfl⟩ := map_some hm
  exact ha.si hid O B H σ E x re h1 _ fun v H1 e1 r1 => ⟨k, truD_ok r1 h2, q _ H1 e1 (.bl _)⟩⟩
@[simp] def mIf (c : En → Option Bool) (a b : En → Option D) : En → Option D := fun E => (c E).bind fun k => if k = true then a E else b E
theorem de_if {c : Expr} {mc : En → Option Bool} {pos : Pos} (hc : DB X c mc) (ha : DE X a ma) (hb : DE X b mb) : DE X (.IfExp c a b pos) (mIf mc ma mb) := ⟨_, pe_ifExp hc.pt ha.pe hb.pe, fun hid O B H σ E d re hm Q q => by
  obtain ⟨k, h1, hm⟩ := bind_some hm
  refine hc.si hid O B H σ E k re h1 _ fun H1 e1 => ?_
  cases k with
  | true =>
    rw [if_pos rfl] at hm ⊢
    exact ha.si hid O B H1 σ E d (re.grow e1) hm Q fun u H2 e2 r2 => q u H2 (e1.trans e2) r2
  | false =>
    rw [if_neg Bool.false_ne_true] at hm ⊢
    exact hb.si hid O B H1 σ E d (re.grow e1) hm Q fun u H2 e2 r2 => q u H2 (e1.trans e2) r2⟩

/-! ### arguments, displays -/
theorem da_nil : DA X [] mNil := ⟨_, pa_nil, fun hid O B H σ E ds re hm Q q => by
  cases hm
  exact q [] H (Ex.refl H) .nil⟩
theorem da_cons {es : List Expr} {m : En → Option (List D)} (ha : DE X a ma) (hr : DA X es m) (hs : starEach (a :: es) X.env = (false, eval a X.env) :: starEach es X.env := by rfl) : DA X (a :: es) (mCons ma m) := ⟨_, pa_cons ha.pe hr.pa hs, fun hid O B H σ E ds re hm Q q => by
  obtain ⟨x, h1, hm⟩ := bind_some hm
  obtain ⟨xs, h2, rfl⟩ := map_some hm
  refine ha.si hid O B H σ E x re h1 _ fun v H1 e1 r1 => ?_
  exact hr.si hid O B H1 σ E xs (re.grow e1) h2 _ fun vs H2 e2 r2 => q _ H2 (e1.trans e2) (.cons (r1.mono (rem_mono e2) _) r2)⟩
theorem dat_nil : DAT X [] mNil := ⟨_, pa_nil, fun hid O B H σ E ds re hm Q q => by
  cases hm
  exact q [] H (Ex.refl H) .nil⟩
theorem dat_cons {es : List Expr} {m : En → Option (List D)} (ha : DT X a ma) (hr : DAT X es m) (hs : starEach (a :: es) X.env = (false, eval a X.env) :: starEach es X.env := by rfl) : DAT X (a :: es) (mCons ma m) := ⟨_, pa_cons ha.pe hr.pa hs, fun hid O B H σ E ds re hm Q q => by
  obtain ⟨x, h1, hm⟩ := bind_some hm
  obtain ⟨xs, h2, rfl⟩ := map_some hm
  refine ha.si hid O B H σ E x re h1 _ fun v H1 e1 r1 => ?_
  exact hr.si hid O B H1 σ E xs (re.grow e1) h2 _ fun vs H2 e2 r2 => q _ H2 (e1.trans e2) (.cons (r1.full.mono e2 _) r2)⟩
theorem de_tup {es : List Expr} {x1} {pos : Pos} {m : En → Option (List D)} (h : DA X es m) : DE X (.Tuple es x1 pos) (mTup m) := ⟨_, pe_tup h.pa, fun hid O B H σ E d re hm Q q => by
  obtain ⟨ds, h1, hm⟩ := bind_some hm
  obtain ⟨h2, rfl⟩ := ite_some hm
  refine h.si hid O B H σ E ds re h1 _ fun vs H1 e1 r1 => ⟨by rw [r1.length]; exact size_le h2, fun p hp => ?_⟩
  have ex : Ex H1 (upd H1 p (.tup vs)) := Ex.new hp
  exact q _ _ (e1.trans ex) (.tup (Evl.st_of (vis_new ((re.grow e1).fresh hp) upd_same)) (r1.mono (rem_mono ex) _))⟩
theorem df_lst {es : List Expr} {pos : Pos} {m : En → Option (List D)} (h : DA X es m) : DF X (.List es pos) (mLst m) := ⟨_, pe_lst h.pa, fun hid O B H σ E ds' re hm Q q => by
  obtain ⟨ds, h1, hm⟩ := bind_some hm
  obtain ⟨h2, rfl⟩ := ite_some hm
  refine h.si hid O B H σ E ds re h1 _ fun vs H1 e1 r1 => ⟨by rw [r1.length]; exact size_le h2, fun p hp => ?_⟩
  have ex : Ex H1 (upd H1 p (.lst vs)) := Ex.new hp
  exact q p vs _ (Evl.fresh_back e1 hp) (e1.trans ex) upd_same (r1.mono (rem_new hp ex) _)⟩

/-! ### subscripts, slices -/
@[simp] def ixD : D → D → Option D
  | .lst ds, .int i => atI ds i
  | .tup ds, .int i => atI ds i
  | .scr ns, .int i => (atI ns i).map .int
  | .str z, .int i => if z.length ≤ 100000 then (atI z.cps.toList i).map fun c => .str ⟨#[c]⟩ else none
  | _, _ => none
theorem atI_rp {K : PySem.W.Frag} {H : Hp} {vs : List V} {ds : List D} {i : Int} {d : D} (h : RpL K H vs ds) (e : atI ds i = some d) : ∃ v, atI vs i = some v ∧ Rp K H v d := by
  unfold atI at e ⊢
  obtain ⟨j, h1, h2⟩ := bind_some e
  obtain ⟨v, h3, h4⟩ := h.get h2
  exact ⟨v, by rw [h.length, h1]; exact h3, h4⟩
theorem atI_map {α β : Type} (f : α → β) (xs : List α) (i : Int) : atI (xs.map f) i = (atI xs i).map f := by
  unfold atI
  rw [List.length_map]
  cases h : ixN xs.length i with
  | none => rfl
  | some j =>
    show (xs.map f)[j]? = (xs[j]?).map f
    rw [List.getElem?_map]
theorem od_ix {K : PySem.W.Frag} : OD K (rIx K) ixD := fun hid O H x y a b d al ra rb hm Q q => by
  unfold ixD at hm
  split at hm
  · obtain ⟨p, xs, rfl, h1, h2⟩ := ra.seq
    obtain ⟨v, h3, h4⟩ := atI_rp h2 hm
    exact .inl ⟨p, xs, _, v, rfl, rb.int, h1, h3, q v H (Ex.refl H) h4⟩
  · obtain ⟨p, xs, rfl, h1, h2⟩ := ra.tup
    obtain ⟨v, h3, h4⟩ := atI_rp h2 hm
    exact .inr (.inl ⟨p, xs, _, v, rfl, rb.int, Evl.ex_t rem_ex h1, h3, q v H (Ex.refl H) h4⟩)
  · obtain ⟨p, rfl, h1⟩ := ra.scr
    obtain ⟨n, h2, rfl⟩ := map_some hm
    refine .inl ⟨p, _, _, .int n, rfl, rb.int, h1, ?_, q _ H (Ex.refl H) (.int n)⟩
    rw [atI_map, h2]
    rfl
  · rename_i z i
    by_cases h1 : z.length ≤ 100000
    · rw [if_pos h1] at hm
      obtain ⟨c, h3, rfl⟩ := map_some hm
      exact .inr (.inr ⟨_, _, c, ra.str, rb.int, size_le h1, h3, q _ H (Ex.refl H) (.str _)⟩)
    · rw [if_neg h1] at hm
      cases hm
  · cases hm
theorem de_ix {pos : Pos} (ha : DT X a ma) (hb : DT X b mb) (hs : PlainIx b := by exact fun _ _ => rfl) : DE X (.Subscript a b pos) (mBin ixD ma mb) := ⟨_, pe_ix ix_seq ha.pe hb.pe hs, st_bin od_ix ha.si hb.si⟩
theorem do_none : DO X none (fun _ => some none) := ⟨_, po_none, fun hid O B H σ E o re hm Q q => by
  cases hm
  exact q H (Ex.refl H)⟩
@[simp] def inOf : D → Option (Option Int)
  | .int i => some (some i)
  | _ => none
theorem do_some (ha : DT X a ma) : DO X (some a) (fun E => (ma E).bind inOf) := ⟨_, po_some ha.pe, fun hid O B H σ E o re hm Q q => by
  obtain ⟨x, h1, hm⟩ := bind_some hm
  unfold inOf at hm
  split at hm
  · cases hm
    exact ha.si hid O B H σ E _ re h1 _ fun v H1 e1 r1 => ⟨_, r1.int, q H1 e1⟩
  · cases hm⟩
def cutD (ds : List D) (lo hi : Option Int) : List D := (ds.drop (HT.sIx ds.length 0 lo)).take (HT.sIx ds.length ds.length hi - HT.sIx ds.length 0 lo)
theorem cut_rp {K : PySem.W.Frag} {H : Hp} {vs : List V} {ds : List D} (lo hi : Option Int) (h : RpL K H vs ds) : RpL K H (cutV vs lo hi) (cutD ds lo hi) := by
  unfold cutV cutD
  rw [h.length]
  exact (h.drop _).take _
@[simp] def lstOf : D → Option (List D)
  | .lst ds => some ds
  | .scr ns => some (ns.map .int)
  | _ => none
theorem lstOf_some {d : D} {ds : List D} (h : lstOf d = some ds) : d = .lst ds ∨ ∃ ns, d = .scr ns ∧ ds = ns.map .int := by
  unfold lstOf at h
  split at h
  · cases h
    exact .inl rfl
  · cases h
    exact .inr ⟨_, rfl, rfl⟩
  · cases h
/-- a slice of a list -/
theorem df_slice {lo hi : Option Expr} {ml mh : En → Option (Option Int)} {p2 pos : Pos} (ha : DT X a ma) (hl : DO X lo ml) (hh : DO X hi mh) :
    DF X (.Subscript a (.Slice lo hi none p2) pos) (fun E => ((ma E).bind lstOf).bind fun ds => (ml E).bind fun l => (mh E).map fun h => cutD ds l h) := ⟨_, pe_slice sl_list ha.pe hl.po hh.po, fun hid O B H σ E ds re hm Q q => by
  obtain ⟨es, h1, hm⟩ := bind_some hm
  obtain ⟨x, h0, h1⟩ := bind_some h1
  obtain ⟨l, h2, hm⟩ := bind_some hm
  obtain ⟨h, h3, rfl⟩ := map_some hm
  refine ha.si hid O B H σ E x re h0 _ fun v H1 e1 r1 => ?_
  refine hl.si hid O B H1 σ E l (re.grow e1) h2 _ fun H2 e2 => ?_
  refine hh.si hid O B H2 σ E h (re.grow (e1.trans e2)) h3 _ fun H3 e3 => ?_
  have e123 := (e1.trans e2).trans e3
  have r3 := (r1.mono e2).mono e3
  rcases lstOf_some h1 with rfl | ⟨ns, rfl, rfl⟩
  · obtain ⟨p, xs, rfl, p1, p2⟩ := r3.seq
    refine ⟨p, xs, rfl, p1, fun t ht => ?_⟩
    have ex : Ex H3 (upd H3 t (.lst (cutV xs l h))) := Ex.new ht
    exact q t _ _ (Evl.fresh_back e123 ht) (e123.trans ex) upd_same ((cut_rp l h p2).mono (rem_new ht ex) _)
  · obtain ⟨p, rfl, p1⟩ := r3.scr
    refine ⟨p, _, rfl, p1, fun t ht => ?_⟩
    have ex : Ex H3 (upd H3 t (.lst (cutV (ns.map V.int) l h))) := Ex.new ht
    exact q t _ _ (Evl.fresh_back e123 ht) (e123.trans ex) upd_same ((cut_rp l h (RpL.ints _)).mono (rem_new ht ex) _)⟩
/-- xs[::-1] -/
theorem df_rev {k : Nat} {p1 p2 p3 pos : Pos} (ha : DT X a ma) : DF X (.Subscript a (.Slice none none (some (.UnaryOp .USub (.Constant (.int 1) k p1) p2)) p3) pos) (fun E => ((ma E).bind lstOf).map List.reverse) := ⟨_, pe_revL ha.pe, fun hid O B H σ E ds re hm Q q => by
  obtain ⟨es, h1, rfl⟩ := map_some hm
  obtain ⟨x, h0, h1⟩ := bind_some h1
  refine ha.si hid O B H σ E x re h0 _ fun v H1 e1 r1 => ?_
  rcases lstOf_some h1 with rfl | ⟨ns, rfl, rfl⟩
  · obtain ⟨p, xs, rfl, p1, p2⟩ := r1.seq
    refine ⟨p, xs, rfl, p1, fun t ht => ?_⟩
    have ex : Ex H1 (upd H1 t (.lst xs.reverse)) := Ex.new ht
    exact q t _ _ (Evl.fresh_back e1 ht) (e1.trans ex) upd_same (p2.rev.mono (rem_new ht ex) _)
  · obtain ⟨p, rfl, p1⟩ := r1.scr
    refine ⟨p, _, rfl, p1, fun t ht => ?_⟩
    have ex : Ex H1 (upd H1 t (.lst (ns.map V.int).reverse)) := Ex.new ht
    exact q t _ _ (Evl.fresh_back e1 ht) (e1.trans ex) upd_same ((RpL.rev (RpL.ints _)).mono (rem_new ht ex) _)⟩
end
end Sx

set_option Elab.async false
set_option linter.all false
set_option maxRecDepth 100000
set_option maxHeartbeats 1000000
namespace Sx
open PySem PySem.Spec PyProof.Rows L2
open Evl (Ex)

/-! ### more about environments -/
section
variable {K : PySem.W.Frag} {hid O : AS} {B H H' : Hp} {σ : L2.St} {E : En}
theorem RE.rebase (r : RE K hid O B H σ E) : RE K hid O (rem O H) H σ E :=
  ⟨fun a o q => ⟨(rem_some.mp q).2, (rem_some.mp q).1⟩, r.own, fun a z => by
    obtain ⟨o, q, m⟩ := r.hidd a z
    exact ⟨o, rem_some.mpr ⟨(r.base a _ q).2, (r.base a _ q).1⟩, m⟩, r.len, r.fz, r.ow, r.dis, r.nod⟩
theorem RE.back {B' : Hp} (r : RE K hid O B' H σ E) (e : Ex B B') (hd : ∀ a, hid a → IsM B a) : RE K hid O B H σ E :=
  ⟨fun a o q => r.base a o (e a o q), r.own, hd, r.len, r.fz, r.ow, r.dis, r.nod⟩
theorem RE.old (r : RE K hid O B H σ E) : Ex B (rem O H) := fun a o q => rem_some.mpr ⟨(r.base a o q).2, (r.base a o q).1⟩
@[simp] def wipeE (E : En) : List Nat → En
  | [] => E
  | v :: vs => (wipeE E vs).set v .un
theorem RE.wiped (r : RE K hid O B H σ E) : ∀ vs : List Nat, RE K hid O B H (wipe σ vs) (wipeE E vs)
  | [] => r
  | v :: vs => (r.wiped vs).drop v
end
theorem wipe_get (σ : L2.St) (j : Nat) : ∀ vs : List Nat, (wipe σ vs)[j]? = if j ∈ vs ∧ j < σ.length then some none else σ[j]?
  | [] => by simp [wipe]
  | v :: vs => by
    unfold wipe
    by_cases h : v = j
    · subst h
      by_cases hl : v < σ.length
      · rw [List.getElem?_set_self (by rw [wipe_length]; exact hl), if_pos ⟨List.mem_cons_self .., hl⟩]
      · rw [List.getElem?_eq_none (by rw [List.length_set, wipe_length]; omega), if_neg (fun z => hl z.2), List.getElem?_eq_none (by omega)]
    · rw [List.getElem?_set_ne h, wipe_get σ j vs]
      by_cases hj : j ∈ vs
      · by_cases hl : j < σ.length
        · rw [if_pos ⟨hj, hl⟩, if_pos ⟨List.mem_cons_of_mem _ hj, hl⟩]
        · rw [if_neg (fun z => hl z.2), if_neg (fun z => hl z.2)]
      · rw [if_neg (fun z => hj z.1), if_neg (fun z => by
          rcases List.mem_cons.mp z.1 with e | e
          · exact h e.symm
          · exact hj e)]
theorem wipe_set (σ : L2.St) {i : Nat} {x : Option V} {vs : List Nat} (h : i ∈ vs) : wipe (σ.set i x) vs = wipe σ vs := by
  refine List.ext_getElem? fun j => ?_
  rw [wipe_get, wipe_get, List.length_set]
  by_cases hj : j ∈ vs ∧ j < σ.length
  · rw [if_pos hj, if_pos hj]
  · rw [if_neg hj, if_neg hj]
    by_cases e : i = j
    · subst e
      rw [List.getElem?_eq_none (by rw [List.length_set]; exact Nat.le_of_not_lt fun z => hj ⟨h, z⟩), List.getElem?_eq_none (Nat.le_of_not_lt fun z => hj ⟨h, z⟩)]
    · rw [List.getElem?_set_ne e]

/-! ### what is walked -/
section
variable (K : PySem.W.Frag)
def Yd (W : AS) (H2 : Hp) (ds : List D) (Y : Nat → Hp → V → Hp → Prop) : Prop := ∀ (i : Nat) (H1 : Hp) (x : V) (H1' : Hp) (W' : AS) (d : D), Y i H1 x H1' → ds[i]? = some d → Ex (rem W H2) (rem W' H1) → (∀ p, H1 p = none → ¬ W' p) → Ex H1 H1' ∧ Rp K (rem W' H1') x d
def SI (wi : TI) (m : En → Option (List D)) : Prop := ∀ (hid O : AS) (B H : Hp) (σ : L2.St) (E : En) (ds : List D), RE K hid O B H σ E → m E = some ds → ∀ R : It → Hp → Prop,
  (∀ J H2 G Y, Ex H H2 → Walk J ds.length G Y → (∀ H', Ex (rem (orS hid O) H2) H' → G H') → Yd K (orS hid O) H2 ds Y → R J H2) → wi σ H R
def SIT (wi : TI) (m : En → Option (List D)) : Prop := ∀ (hid O : AS) (B H : Hp) (σ : L2.St) (E : En) (ds : List D), RE K hid O B H σ E → m E = some ds → ∀ R : It → Hp → Prop,
  (∀ J H2 G Y, Ex H H2 → Walk J ds.length G Y → (∀ H', Ex H2 H' → G H') → Yd K (orS hid O) H2 ds Y → R J H2) → wi σ H R
end
section
variable (K : PySem.W.Frag)
def tIq (m : En → Option (List D)) : TI := fun σ H R => ∃ (hid O : AS) (B : Hp) (E : En) (ds : List D), RE K hid O B H σ E ∧ m E = some ds ∧
  ∀ J H2 G Y, Ex H H2 → Walk J ds.length G Y → (∀ H', Ex (rem (orS hid O) H2) H' → G H') → Yd K (orS hid O) H2 ds Y → R J H2
def tITq (m : En → Option (List D)) : TI := fun σ H R => ∃ (hid O : AS) (B : Hp) (E : En) (ds : List D), RE K hid O B H σ E ∧ m E = some ds ∧
  ∀ J H2 G Y, Ex H H2 → Walk J ds.length G Y → (∀ H', Ex H2 H' → G H') → Yd K (orS hid O) H2 ds Y → R J H2
end
def DI (X : Cx) (tg e : Expr) (m : En → Option (List D)) : Prop := ∃ wi, PI X tg e wi ∧ SI X.K wi m
def DIT (X : Cx) (tg e : Expr) (m : En → Option (List D)) : Prop := ∃ wi, PI X tg e wi ∧ SIT X.K wi m
theorem DI.pi {X : Cx} {tg e : Expr} {m : En → Option (List D)} (h : DI X tg e m) : PI X tg e (tIq X.K m) := by
  obtain ⟨te, p, s⟩ := h
  exact ⟨fun pins s0 σ H Q I h => p.run pins s0 σ H Q I (by obtain ⟨hid, O, B, E, d, r, hm, q⟩ := h; exact s hid O B H σ E d r hm Q q)⟩
theorem DI.si {X : Cx} {tg e : Expr} {m : En → Option (List D)} (h : DI X tg e m) : SI X.K (tIq X.K m) m := fun hid O B H σ E d r hm Q q => ⟨hid, O, B, E, d, r, hm, q⟩
theorem DIT.pi {X : Cx} {tg e : Expr} {m : En → Option (List D)} (h : DIT X tg e m) : PI X tg e (tITq X.K m) := by
  obtain ⟨te, p, s⟩ := h
  exact ⟨fun pins s0 σ H Q I h => p.run pins s0 σ H Q I (by obtain ⟨hid, O, B, E, d, r, hm, q⟩ := h; exact s hid O B H σ E d r hm Q q)⟩
theorem DIT.si {X : Cx} {tg e : Expr} {m : En → Option (List D)} (h : DIT X tg e m) : SIT X.K (tITq X.K m) m := fun hid O B H σ E d r hm Q q => ⟨hid, O, B, E, d, r, hm, q⟩
theorem Yd.at {K : PySem.W.Frag} {W : AS} {H2 : Hp} {xs : List V} {ds : List D} (h : RpL K (rem W H2) xs ds) : Yd K W H2 ds (YAt xs) := fun i H1 x H1' W' d y hd e _ => by
  obtain ⟨rfl, hx⟩ := y
  obtain ⟨v, h1, h2⟩ := h.get hd
  rw [hx] at h1
  cases h1
  exact ⟨Ex.refl _, h2.mono e d⟩
def rangeD (lo : Int) (n : Nat) : List D := (List.range n).map fun (i : Nat) => D.int (lo + (i : Int))
theorem rangeD_len (lo : Int) (n : Nat) : (rangeD lo n).length = n := by
  unfold rangeD
  rw [List.length_map, List.length_range]
theorem rangeD_get {lo : Int} {n i : Nat} (h : i < n) : (rangeD lo n)[i]? = some (.int (lo + i)) := by
  unfold rangeD
  rw [List.getElem?_map, List.getElem?_range h]
  rfl
theorem Yd.fn {K : PySem.W.Frag} {W : AS} {H2 : Hp} {lo : Int} {n : Nat} : Yd K W H2 (rangeD lo n) (YFn fun i => .int (lo + i)) := fun i H1 x H1' W' d y hd e _ => by
  obtain ⟨rfl, rfl⟩ := y
  have hi : i < n := by
    have := (List.getElem?_eq_some_iff.mp hd).1
    rwa [rangeD_len] at this
  rw [rangeD_get hi] at hd
  cases hd
  exact ⟨Ex.refl _, .int _⟩
section
variable {X : Cx} {tg e : Expr} {te : TE} {m : En → Option D}
theorem DI.t {m : En → Option (List D)} (h : DI X tg e m) : DIT X tg e m := ⟨_, h.pi, fun hid O B H σ E ds r hm R k => h.si hid O B H σ E ds r hm R fun J H2 G Y e w g y => k J H2 G Y e w (fun H' z => g H' (Ex.trans rem_ex z)) y⟩
/-- a list -/
theorem di_list (h : DE X e m) : DI X tg e (fun E => (m E).bind lstOf) := ⟨_, pi_list h.pe, fun hid O B H σ E ds r hm R k => by
  obtain ⟨x, h1, hm⟩ := bind_some hm
  refine h.si hid O B H σ E x r h1 _ fun v H1 e1 r1 => ?_
  rcases lstOf_some hm with rfl | ⟨ns, rfl, rfl⟩
  · cases r1 with
    | @lst a xs _ g1 g2 =>
      refine ⟨a, rfl, ⟨xs, .inl (.inl (rem_some.mp g1).2)⟩, ?_⟩
      have w := walk_list (K := X.K) (a := a) (xs := xs)
      rw [g2.length] at w
      exact k _ H1 _ _ e1 w (fun H' z => .inl (.inl (z a _ g1))) (Yd.at g2)
  · cases r1 with
    | @scr a _ g1 =>
      refine ⟨a, rfl, ⟨_, Evl.ex_l rem_ex g1⟩, ?_⟩
      have w := walk_list (K := X.K) (a := a) (xs := ns.map V.int)
      rw [List.length_map, ← List.length_map (f := D.int)] at w
      exact k _ H1 _ _ e1 w (fun H' z => Evl.ex_l z g1) (Yd.at (RpL.ints ns))⟩
theorem dit_list (h : DT X e m) : DIT X tg e (fun E => (m E).bind lstOf) := ⟨_, pi_list h.pe, fun hid O B H σ E ds r hm R k => by
  obtain ⟨x, h1, hm⟩ := bind_some hm
  refine h.si hid O B H σ E x r h1 _ fun v H1 e1 r1 => ?_
  rcases lstOf_some hm with rfl | ⟨ns, rfl, rfl⟩
  · obtain ⟨a, xs, rfl, g1, g2⟩ := r1.lst
    refine ⟨a, rfl, ⟨xs, .inl (.inl g1)⟩, ?_⟩
    have w := walk_list (K := X.K) (a := a) (xs := xs)
    rw [g2.length] at w
    exact k _ H1 _ _ e1 w (fun H' z => .inl (.inl (z a _ g1))) (Yd.at g2)
  · obtain ⟨a, rfl, g1⟩ := r1.scr
    refine ⟨a, rfl, ⟨_, g1⟩, ?_⟩
    have w := walk_list (K := X.K) (a := a) (xs := ns.map V.int)
    rw [List.length_map, ← List.length_map (f := D.int)] at w
    exact k _ H1 _ _ e1 w (fun H' z => Evl.ex_l z g1) (Yd.at (RpL.ints ns))⟩
@[simp] def tupOf : D → Option (List D)
  | .tup ds => some ds
  | _ => none
/-- a tuple -/
theorem di_tup (h : DE X e m) : DI X tg e (fun E => (m E).bind tupOf) := ⟨_, pi_tup h.pe, fun hid O B H σ E ds r hm R k => by
  obtain ⟨x, h1, hm⟩ := bind_some hm
  refine h.si hid O B H σ E x r h1 _ fun v H1 e1 r1 => ?_
  unfold tupOf at hm
  split at hm
  · cases hm
    cases r1 with
    | @tup a xs _ g1 g2 =>
      refine ⟨a, rfl, ⟨xs, Evl.ex_t rem_ex g1⟩, ?_⟩
      have w := walk_tup (K := X.K) (a := a) (xs := xs)
      rw [g2.length] at w
      exact k _ H1 _ _ e1 w (fun H' z => Evl.ex_t z g1) (Yd.at g2)
  · cases hm⟩
@[simp] def rg1 : D → Option (List D)
  | .int n => if n ≤ 100000 ∧ -100000 ≤ n then some (rangeD 0 n.toNat) else none
  | _ => none
theorem rg1_some {d : D} {ds : List D} (h : rg1 d = some ds) : ∃ n : Int, d = .int n ∧ n ≤ 100000 ∧ -100000 ≤ n ∧ ds = rangeD 0 n.toNat := by
  unfold rg1 at h
  split at h
  · obtain ⟨h1, h2⟩ := ite_some h
    exact ⟨_, rfl, h1.1, h1.2, h2.symm⟩
  · cases h
@[simp] def rg2 : D → D → Option (List D)
  | .int a, .int n => if (n ≤ 100000 ∧ -100000 ≤ n) ∧ (a ≤ 100000 ∧ -100000 ≤ a) then some (rangeD a (n - a).toNat) else none
  | _, _ => none
theorem rg2_some {c d : D} {ds : List D} (h : rg2 c d = some ds) : ∃ a n : Int, c = .int a ∧ d = .int n ∧ (n ≤ 100000 ∧ -100000 ≤ n) ∧ (a ≤ 100000 ∧ -100000 ≤ a) ∧ ds = rangeD a (n - a).toNat := by
  unfold rg2 at h
  split at h
  · obtain ⟨h1, h2⟩ := ite_some h
    exact ⟨_, _, rfl, rfl, h1.1, h1.2, h2.symm⟩
  · cases h
theorem di_range1 {a : Expr} {ma : En → Option D} {p pos : Pos} (hm : X.mg "range" = none) (ha : DT X a ma) (hg : Gl X "range" := by rfl) (hs : starEach [a] X.env = [(false, eval a X.env)] := by rfl) (hs1 : starEach [a] X.env = (false, eval a X.env) :: starEach [] X.env := by rfl) :
    DI X tg (.Call (.Name "range" p) [a] [] pos) (fun E => (ma E).bind rg1) := ⟨_, pi_range1 hg hm (pa_cons ha.pe pa_nil hs1) hs, fun hid O B H σ E ds r hm R k => by
  obtain ⟨x, h1, hm⟩ := bind_some hm
  obtain ⟨n, rfl, b1, b2, rfl⟩ := rg1_some hm
  refine ha.si hid O B H σ E _ r h1 _ fun v H1 e1 r1 => ?_
  obtain rfl := r1.int
  refine ⟨n, rfl, by omega, by omega, ?_⟩
  have w := walk_range (lo := 0) (n := n.toNat)
  rw [← rangeD_len 0 n.toNat] at w
  rw [rangeD_len] at w
  exact k _ H1 _ _ e1 (by rw [rangeD_len]; exact w) (fun _ _ => trivial) Yd.fn⟩
theorem di_range2 {a b : Expr} {ma mb : En → Option D} {p pos : Pos} (hm : X.mg "range" = none) (ha : DT X a ma) (hb : DT X b mb) (hg : Gl X "range" := by rfl) (hs : starEach [a, b] X.env = [(false, eval a X.env), (false, eval b X.env)] := by rfl) (hs2 : starEach [b] X.env = [(false, eval b X.env)] := by rfl)
    (hs1 : starEach [a, b] X.env = (false, eval a X.env) :: starEach [b] X.env := by rfl) (hs3 : starEach [b] X.env = (false, eval b X.env) :: starEach [] X.env := by rfl) :
    DI X tg (.Call (.Name "range" p) [a, b] [] pos) (fun E => (ma E).bind fun x => (mb E).bind fun y => rg2 x y) := ⟨_, pi_range2 hg hm (pa_cons ha.pe (pa_cons hb.pe pa_nil hs3) hs1) hs hs2, fun hid O B H σ E ds r hm R k => by
  obtain ⟨x, h1, hm⟩ := bind_some hm
  obtain ⟨y, h2, hm⟩ := bind_some hm
  obtain ⟨a, n, rfl, rfl, b1, b2, rfl⟩ := rg2_some hm
  refine ha.si hid O B H σ E _ r h1 _ fun v H1 e1 r1 => ?_
  obtain rfl := r1.int
  refine hb.si hid O B H1 σ E _ (r.grow e1) h2 _ fun v H2 e2 r2 => ?_
  obtain rfl := r2.int
  refine ⟨a, n, rfl, by omega, ?_⟩
  exact k _ H2 _ _ (e1.trans e2) (by rw [rangeD_len]; exact walk_range) (fun _ _ => trivial) Yd.fn⟩
end

/-! ### targets -/
section
variable (K : PySem.W.Frag)
def SG (g : TG) (js : List Nat) (m : En → D → Option En) : Prop := ∀ (hid O : AS) (B H : Hp) (σ : L2.St) (E : En) (v : V) (d : D) (E' : En), RE K hid O B H σ E → Rp K (rem (orS hid O) H) v d → m E d = some E' → ∀ Q : L2.St → Hp → Prop,
  (∀ σ', RE K hid O B H σ' E' → (∀ vs : List Nat, (∀ j ∈ js, j ∈ vs) → wipe σ' vs = wipe σ vs) → Q σ' H) → g v σ H Q
def SGs (g : TGs) (js : List Nat) (m : En → List D → Option En) : Prop := ∀ (hid O : AS) (B H : Hp) (σ : L2.St) (E : En) (v : List V) (d : List D) (E' : En), RE K hid O B H σ E → RpL K (rem (orS hid O) H) v d → m E d = some E' → ∀ Q : L2.St → Hp → Prop,
  (∀ σ', RE K hid O B H σ' E' → (∀ vs : List Nat, (∀ j ∈ js, j ∈ vs) → wipe σ' vs = wipe σ vs) → Q σ' H) → g v σ H Q
end
section
variable (K : PySem.W.Frag)
def tGq (js : List Nat) (m : En → D → Option En) : TG := fun v σ H Q => ∃ (hid O : AS) (B : Hp) (E : En) (d : D) (E' : En), RE K hid O B H σ E ∧ Rp K (rem (orS hid O) H) v d ∧ m E d = some E' ∧
  ∀ σ', RE K hid O B H σ' E' → (∀ vs : List Nat, (∀ j ∈ js, j ∈ vs) → wipe σ' vs = wipe σ vs) → Q σ' H
def tGsq (js : List Nat) (m : En → List D → Option En) : TGs := fun v σ H Q => ∃ (hid O : AS) (B : Hp) (E : En) (d : List D) (E' : En), RE K hid O B H σ E ∧ RpL K (rem (orS hid O) H) v d ∧ m E d = some E' ∧
  ∀ σ', RE K hid O B H σ' E' → (∀ vs : List Nat, (∀ j ∈ js, j ∈ vs) → wipe σ' vs = wipe σ vs) → Q σ' H
end
def DG (X : Cx) (tg : Expr) (js : List Nat) (m : En → D → Option En) : Prop := ∃ g, PG X tg g ∧ SG X.K g js m
def DGs (X : Cx) (tg : List Expr) (js : List Nat) (m : En → List D → Option En) : Prop := ∃ g, PGs X tg g ∧ SGs X.K g js m
theorem DG.pg {X : Cx} {tg : Expr} {js : List Nat} {m : En → D → Option En} (h : DG X tg js m) : PG X tg (tGq X.K js m) := by
  obtain ⟨te, p, s⟩ := h
  exact ⟨fun pins s0 σ H v u Q I rv h => p.run pins s0 σ H v u Q I rv (by obtain ⟨hid, O, B, E, d, E', r, r2, hm, q⟩ := h; exact s hid O B H σ E v d E' r r2 hm Q q)⟩
theorem DG.si {X : Cx} {tg : Expr} {js : List Nat} {m : En → D → Option En} (h : DG X tg js m) : SG X.K (tGq X.K js m) js m := fun hid O B H σ E v d E' r r2 hm Q q => ⟨hid, O, B, E, d, E', r, r2, hm, q⟩
theorem DGs.pg {X : Cx} {tg : List Expr} {js : List Nat} {m : En → List D → Option En} (h : DGs X tg js m) : PGs X tg (tGsq X.K js m) := by
  obtain ⟨te, p, s⟩ := h
  exact ⟨fun pins s0 σ H v u Q I rv h => p.run pins s0 σ H v u Q I rv (by obtain ⟨hid, O, B, E, d, E', r, r2, hm, q⟩ := h; exact s hid O B H σ E v d E' r r2 hm Q q)⟩
theorem DGs.si {X : Cx} {tg : List Expr} {js : List Nat} {m : En → List D → Option En} (h : DGs X tg js m) : SGs X.K (tGsq X.K js m) js m := fun hid O B H σ E v d E' r r2 hm Q q => ⟨hid, O, B, E, d, E', r, r2, hm, q⟩
@[simp] def gM (i : Nat) : En → D → Option En := fun E d => some (E.set i (.fz d))
@[simp] def gsNil : En → List D → Option En := fun E ds => match ds with
  | [] => some E
  | _ => none
@[simp] def gsCons (g : En → D → Option En) (h : En → List D → Option En) : En → List D → Option En := fun E ds => match ds with
  | d :: ds => (g E d).bind fun E1 => h E1 ds
  | [] => none
@[simp] def gTupM (n : Nat) (g : En → List D → Option En) : En → D → Option En := fun E d => match d with
  | .tup ds => if ds.length = n then g E ds else none
  | _ => none
section
variable {X : Cx} {pos : Pos}
theorem dg_name (i : Nat) {x : Str} (hN : X.N.Nodup) (hi : X.N[i]? = some x := by rfl) (hx : Loc X.env.scope x := by first | exact Or.inl rfl | exact Or.inr rfl) (hf : X.fn x = true ∨ X.env.scope.names.lookup x = some .local := by first | exact .inl rfl | exact .inr rfl) : DG X (.Name x pos) [i] (gM i) :=
  ⟨_, pg_name hN hi hx hf, fun hid O B H σ E v d E' r rv hm Q k => by
    cases hm
    exact k _ (r.put i rv) fun vs h => wipe_set σ (h i (List.mem_cons_self ..))⟩
theorem dgs_nil : DGs X [] [] gsNil := ⟨_, pgs_nil, fun hid O B H σ E v d E' r rv hm Q k => by
  unfold gsNil at hm
  split at hm
  · cases hm
    cases rv
    exact ⟨rfl, k σ r fun _ _ => rfl⟩
  · cases hm⟩
theorem dgs_cons {t : Expr} {ts : List Expr} {js ks : List Nat} {mg : En → D → Option En} {mh : En → List D → Option En} (h1 : DG X t js mg) (h2 : DGs X ts ks mh)
    (hs : (assignEach (t :: ts) X.env).map (·.2) = assign t X.env :: (assignEach ts X.env).map (·.2) := by rfl) : DGs X (t :: ts) (js ++ ks) (gsCons mg mh) := ⟨_, pgs_cons h1.pg h2.pg hs, fun hid O B H σ E v d E' r rv hm Q k => by
  unfold gsCons at hm
  split at hm
  · cases rv with
    | cons a b =>
      obtain ⟨E1, q1, q2⟩ := bind_some hm
      refine ⟨_, _, rfl, h1.si hid O B H σ E _ _ E1 r a q1 _ fun σ1 r1 w1 => ?_⟩
      exact h2.si hid O B H σ1 E1 _ _ E' r1 b q2 _ fun σ2 r2 w2 => k σ2 r2 fun vs hv => (w2 vs fun j hj => hv j (List.mem_append_right _ hj)).trans (w1 vs fun j hj => hv j (List.mem_append_left _ hj))
  · cases hm⟩
theorem dg_tup {es : List Expr} {k : Nat} {js : List Nat} {m : En → List D → Option En} {n : Nat} (hc : X.calm = true) (h : DGs X es js m)
    (hn : (assignEach es X.env).length = n := by rfl) (hst : (assignEach es X.env).findIdx? (·.1) = none := by rfl) : DG X (.Tuple es k pos) js (gTupM n m) := ⟨_, pg_tup hc h.pg hn hst, fun hid O B H σ E v d E' r rv hm Q k => by
  unfold gTupM at hm
  split at hm
  · by_cases hl : List.length ‹List D› = n
    · rw [if_pos hl] at hm
      cases rv with
      | tup h1 h2 => exact ⟨_, _, rfl, Evl.ex_t rem_ex h1, by rw [h2.length]; exact hl, h.si hid O B H σ E _ _ E' r h2 hm Q k⟩
    · rw [if_neg hl] at hm
      cases hm
  · cases hm⟩
end

/-! ### comprehensions -/
def runComp (mg : En → D → Option En) (mt : En → Option Bool) (me : En → Option D) (E0 : En) : List D → Option (List D)
  | [] => some []
  | d :: ds => (mg E0 d).bind fun E1 => (mt E1).bind fun b => if b = true then (me E1).bind fun r => (runComp mg mt me E0 ds).map (r :: ·) else runComp mg mt me E0 ds
@[simp] def mComp (vs : List Nat) (mi : En → Option (List D)) (mg : En → D → Option En) (mt : En → Option Bool) (me : En → Option D) : En → Option (List D) :=
  fun E => (mi E).bind fun ds => if ds.length ≤ 100000 then runComp mg mt me (wipeE E vs) ds else none
@[simp] def mYes : En → Option Bool := fun _ => some true
def DTs (X : Cx) (ifs : List Expr) (m : En → Option Bool) : Prop := ∃ tt, PTs X ifs tt ∧ SB X.K tt m
theorem DTs.pt {X : Cx} {ifs : List Expr} {m : En → Option Bool} (h : DTs X ifs m) : PTs X ifs (tBq X.K m) := by
  obtain ⟨te, p, s⟩ := h
  exact ⟨fun pins s0 σ H Q I h => p.run pins s0 σ H Q I (by obtain ⟨hid, O, B, E, d, r, hm, q⟩ := h; exact s hid O B H σ E d r hm Q q)⟩
theorem DTs.si {X : Cx} {ifs : List Expr} {m : En → Option Bool} (h : DTs X ifs m) : SB X.K (tBq X.K m) m := fun hid O B H σ E d r hm Q q => ⟨hid, O, B, E, d, r, hm, q⟩
section
variable {X : Cx}
theorem dts_nil : DTs X [] mYes := ⟨_, pts_nil, fun hid O B H σ E b r hm Q q => by
  cases hm
  exact q H (Ex.refl H)⟩
theorem dts_one {c : Expr} {m : En → Option Bool} (h : DB X c m) : DTs X [c] m := ⟨_, pts_one h.pt, h.si⟩
theorem sf_lc {K : PySem.W.Frag} {wi : TI} {g : TG} {tt : TT} {te : TE} {vs js : List Nat} {mi : En → Option (List D)} {mg : En → D → Option En} {mt : En → Option Bool} {me : En → Option D}
    (hi : SIT K wi mi) (hg : SG K g js mg) (hjs : ∀ j ∈ js, j ∈ vs) (ht : SB K tt mt) (he : SE K te me) : SF K (tLc wi g tt te vs) (mComp vs mi mg mt me) := fun hid O B H σ E out r hm Q q => by
  obtain ⟨ds, h1, hm⟩ := bind_some hm
  have hz : ds.length ≤ 100000 ∧ runComp mg mt me (wipeE E vs) ds = some out := by
    by_cases hz : ds.length ≤ 100000
    · rw [if_pos hz] at hm
      exact ⟨hz, hm⟩
    · rw [if_neg hz] at hm
      cases hm
  obtain ⟨hz, hm⟩ := hz
  refine hi hid O B H σ E ds r h1 _ fun J H2 G Y e2 w hG hY Dl hD => ?_
  have r2 := r.grow e2
  have assoc1 : ∀ a, orS (orS hid O) (· = Dl) a → orS hid (orS O (· = Dl)) a := fun a z => by
    rcases z with (z | z) | z
    · exact .inl z
    · exact .inr (.inl z)
    · exact .inr (.inr z)
  have assoc2 : ∀ a, orS hid (orS O (· = Dl)) a → orS (orS hid O) (· = Dl) a := fun a z => by
    rcases z with z | z | z
    · exact .inl (.inl z)
    · exact .inl (.inr z)
    · exact .inr z
  refine lc_it w (fun i H' => Ex H2 H' ∧ ∃ xs rs rest, H' Dl = some (.lst xs) ∧ RpL K (rem (orS hid (orS O (· = Dl))) H') xs rs ∧ runComp mg mt me (wipeE E vs) (ds.drop i) = some rest ∧ rs ++ rest = out ∧ xs.length ≤ i)
    ⟨Ex.new hD, [], [], out, upd_same, .nil, hm, rfl, Nat.zero_le _⟩ (fun i H' _ p => hG H' p.1) (fun i x H3 H3' hi p y => ?_) (fun H' p => ?_)
  · obtain ⟨e3, xs, rs, rest, g1, g2, g3, g4, g5⟩ := p
    have hdi : ds.drop i = ds[i] :: ds.drop (i + 1) := (List.drop_eq_getElem_cons hi)
    rw [hdi] at g3
    obtain ⟨E1, k1, g3⟩ := bind_some g3
    obtain ⟨b, k2, g3⟩ := bind_some g3
    have rA : RE K hid (orS O (· = Dl)) B H3 σ E := r2.addO hD e3 g1
    have exv : Ex (rem (orS hid O) H2) (rem (orS hid (orS O (· = Dl))) H3) := fun a o z => rem_sub assoc2 _ _ (rem_new hD e3 a o z)
    obtain ⟨e4, rx⟩ := hY i H3 x H3' (orS hid (orS O (· = Dl))) ds[i] y (List.getElem?_eq_getElem hi) exv (fun p hp => rA.fresh hp)
    have rW := (rA.grow e4).wiped vs
    refine hg hid _ B H3' _ _ x ds[i] E1 rW rx k1 _ fun σ2 r3 w3 => ⟨?_, ?_⟩
    · have := w3 vs hjs
      rw [this]
      refine List.ext_getElem? fun j => ?_
      rw [wipe_get, wipe_get, wipe_length]
      by_cases hj : j ∈ vs ∧ j < σ.length
      · rw [if_pos hj, if_pos hj]
      · rw [if_neg hj, if_neg hj]
    · refine ht hid _ B H3' σ2 E1 b r3 k2 _ fun H5 e5 => ?_
      cases b with
      | true =>
        rw [if_pos rfl] at g3 ⊢
        obtain ⟨d, k3, g3⟩ := bind_some g3
        obtain ⟨rest', k4, rfl⟩ := map_some g3
        refine he hid _ B H5 σ2 E1 d (r3.grow e5) k3 _ fun v H6 e6 rv => ?_
        have e36 := (e4.trans e5).trans e6
        refine ⟨xs, e36 Dl _ g1, by have : xs.length < 100000 := by omega
                                    exact size_lt this, Evl.Ex.mut (e3.trans e36) hD, xs ++ [v], rs ++ [d], rest', upd_same, ?_, k4, by rw [List.append_assoc]; exact g4, by rw [List.length_append]; simp only [List.length_singleton]; omega⟩
        exact (((g2.mono (rem_mono e36) _).app (.one rv)).mono (rem_upd (.inr (.inr rfl))) _)
      | false =>
        rw [if_neg Bool.false_ne_true] at g3 ⊢
        have e35 := e4.trans e5
        exact ⟨e3.trans e35, xs, rs, rest, e35 Dl _ g1, g2.mono (rem_mono e35) _, g3, g4, by omega⟩
  · obtain ⟨e3, xs, rs, rest, g1, g2, g3, g4, g5⟩ := p
    rw [List.drop_length] at g3
    cases g3
    rw [List.append_nil] at g4
    subst g4
    exact q Dl xs H' (Evl.fresh_back e2 hD) (e2.trans e3) g1 (g2.mono (rem_sub assoc1) _)
theorem df_lc {elt tg iter : Expr} {ifs : List Expr} {scope : Scope} {own : List (Str × Nat)} {pos : Pos} {js : List Nat} {mi : En → Option (List D)} {mg : En → D → Option En} {mt : En → Option Bool} {me : En → Option D}
    (hc : X.calm = true) (hN : X.N.Nodup) (hi : DIT X tg iter mi) (ok : BlkOk X.N X.env.scope scope own) (hjs : ∀ j ∈ js, j ∈ own.map (·.2))
    (hg : ∀ (s : Shared) (H : Hp) (C : Addr) (cl : List (Str × Addr)) (fp : List Addr), DG (X.blk s H scope (compEnvC scope cl C X.env) fp) tg js mg) (ht : ∀ (s : Shared) (H : Hp) (C : Addr) (cl : List (Str × Addr)) (fp : List Addr), DTs (X.blk s H scope (compEnvC scope cl C X.env) fp) ifs mt)
    (he : ∀ (s : Shared) (H : Hp) (C : Addr) (cl : List (Str × Addr)) (fp : List Addr), DE (X.blk s H scope (compEnvC scope cl C X.env) fp) elt me) (hs : ∀ x, foldedSetIterable iter X.env x = pure x := by intro _; rfl) :
    DF X (.ListComp elt [⟨tg, iter, ifs, 0⟩] scope pos) (mComp (own.map (·.2)) mi mg mt me) :=
  ⟨_, pe_lc hc hN hi.pi ok (fun s H C cl fp => (hg s H C cl fp).pg) (fun s H C cl fp => (ht s H C cl fp).pt) (fun s H C cl fp => (he s H C cl fp).pe) hs,
    sf_lc hi.si (hg X.s_0 X.H_0 0 [] []).si hjs (ht X.s_0 X.H_0 0 [] []).si (he X.s_0 X.H_0 0 [] []).si⟩
end

/-! ### statements -/
inductive Out where
  | nx (E : En) | rt (d : D) | bk (E : En) | ct (E : En) | rf (ds : List D) | tf (d : D) (ds : List D)
def End (K : PySem.W.Frag) (hid : AS) (B : Hp) (Dn : Ends) : Out → Prop
  | .nx E => ∀ O σ H, RE K hid O B H σ E → Dn.nx σ H
  | .rt d => ∀ v H, Ex B H → Rp K (rem hid H) v d → Dn.rt v H
  | .bk E => ∀ O σ H, RE K hid O B H σ E → Dn.bk σ H
  | .ct E => ∀ O σ H, RE K hid O B H σ E → Dn.ct σ H
  | .rf ds => ∀ p xs H, B p = none → Ex B H → H p = some (.lst xs) → RpL K (rem (orS hid (· = p)) H) xs ds → Dn.rt (.ref p) H
  | .tf d ds => ∀ q v p xs H, B p = none → Ex B H → H p = some (.lst xs) → RpL K (rem (orS hid (· = p)) H) xs ds → SqT K (rem (orS hid (· = p)) H) q [v, .ref p] → Rp K (rem (orS hid (· = p)) H) v d → Dn.rt (.ref q) H
def SS (K : PySem.W.Frag) (t : TS) (m : En → Option Out) : Prop := ∀ (hid O : AS) (B H : Hp) (σ : L2.St) (E : En) (o : Out) (Dn : Ends), RE K hid O B H σ E → m E = some o → End K hid B Dn o → t Dn σ H
def tSq (K : PySem.W.Frag) (m : En → Option Out) : TS := fun Dn σ H => ∃ (hid O : AS) (B : Hp) (E : En) (o : Out), RE K hid O B H σ E ∧ m E = some o ∧ End K hid B Dn o
def DS (X : Cx) (st : Stmt) (m : En → Option Out) : Prop := ∃ t, PS X st t ∧ SS X.K t m
def DSs (X : Cx) (sts : List Stmt) (m : En → Option Out) : Prop := ∃ t, PSs X sts t ∧ SS X.K t m
theorem DS.ps {X : Cx} {st : Stmt} {m : En → Option Out} (h : DS X st m) : PS X st (tSq X.K m) := by
  obtain ⟨te, p, s⟩ := h
  exact ⟨fun pins s0 σ H Q I h => p.run pins s0 σ H Q I (by obtain ⟨hid, O, B, E, d, r, hm, q⟩ := h; exact s hid O B H σ E d Q r hm q)⟩
theorem DS.si {X : Cx} {st : Stmt} {m : En → Option Out} (h : DS X st m) : SS X.K (tSq X.K m) m := fun hid O B H σ E d Q r hm q => ⟨hid, O, B, E, d, r, hm, q⟩
theorem DSs.ps {X : Cx} {st : List Stmt} {m : En → Option Out} (h : DSs X st m) : PSs X st (tSq X.K m) := by
  obtain ⟨te, p, s⟩ := h
  exact ⟨fun pins s0 σ H Q I h => p.run pins s0 σ H Q I (by obtain ⟨hid, O, B, E, d, r, hm, q⟩ := h; exact s hid O B H σ E d Q r hm q)⟩
theorem DSs.si {X : Cx} {st : List Stmt} {m : En → Option Out} (h : DSs X st m) : SS X.K (tSq X.K m) m := fun hid O B H σ E d Q r hm q => ⟨hid, O, B, E, d, r, hm, q⟩
@[simp] def mNext : En → Option Out := fun E => some (.nx E)
@[simp] def mSeq (a b : En → Option Out) : En → Option Out := fun E => (a E).bind fun o => match o with
  | .nx E1 => b E1
  | o => some o
section
variable {X : Cx} {pos : Pos} {st : Stmt} {rest : List Stmt} {t u : TS} {m n : En → Option Out}
theorem dss_nil : DSs X [] mNext := ⟨_, pss_nil, fun hid O B H σ E o Dn r hm k => by
  cases hm
  exact k O σ H r⟩
theorem dss_cons (h1 : DS X st m) (h2 : DSs X rest n) : DSs X (st :: rest) (mSeq m n) := ⟨_, pss_cons h1.ps h2.ps, fun hid O B H σ E o Dn r hm k => by
  obtain ⟨o1, e1, hm⟩ := bind_some hm
  refine h1.si hid O B H σ E o1 _ r e1 ?_
  cases o1 with
  | nx E1 => exact fun O' σ' H' r' => h2.si hid O' B H' σ' E1 o Dn r' hm k
  | rt d => cases hm; exact k
  | bk E1 => cases hm; exact k
  | rf E1 => cases hm; exact k
  | tf d1 E1 => cases hm; exact k
  | ct E1 => cases hm; exact k⟩
theorem dss_one (h1 : DS X st m) : DSs X [st] m := ⟨_, pss_one h1.ps, h1.si⟩
/-- an owned list is let go -/
@[simp] def frzE (i : Nat) (E : En) : En := match E[i]? with
  | some (.ow ds) => E.set i (.fz (.lst ds))
  | _ => E
theorem RE.frzE {K : PySem.W.Frag} {hid O : AS} {B H : Hp} {σ : L2.St} {E : En} (r : RE K hid O B H σ E) (i : Nat) : ∃ O', RE K hid O' B H σ (frzE i E) := by
  unfold Sx.frzE
  split
  · rename_i ds h
    obtain ⟨O', r', _⟩ := r.frz h
    exact ⟨O', r'⟩
  · exact ⟨O, r⟩
@[simp] def mFrz (i : Nat) (m : En → Option Out) : En → Option Out := fun E => m (frzE i E)
theorem ds_frz (i : Nat) (h : DS X st m) : DS X st (mFrz i m) := ⟨_, h.ps, fun hid O B H σ E o Dn r hm k => by
  obtain ⟨O', r'⟩ := r.frzE i
  exact h.si hid O' B H σ _ o Dn r' hm k⟩
theorem ds_pass : DS X (.Pass pos) mNext := ⟨_, ps_pass, fun hid O B H σ E o Dn r hm k => by
  cases hm
  exact k O σ H r⟩
theorem ds_break : DS X (.Break pos) (fun E => some (.bk E)) := ⟨_, ps_break, fun hid O B H σ E o Dn r hm k => by
  cases hm
  exact k O σ H r⟩
theorem ds_continue : DS X (.Continue pos) (fun E => some (.ct E)) := ⟨_, ps_continue, fun hid O B H σ E o Dn r hm k => by
  cases hm
  exact k O σ H r⟩
@[simp] def mRet (m : En → Option D) : En → Option Out := fun E => (m E).map .rt
theorem ds_ret {e : Expr} {m : En → Option D} (h : DT X e m) : DS X (.Return (some e) pos) (mRet m) := ⟨_, ps_ret h.pe, fun hid O B H σ E o Dn r hm k => by
  obtain ⟨d, h1, rfl⟩ := map_some hm
  exact h.si hid O B H σ E d r h1 _ fun v H1 e1 r1 => k v H1 ((r.grow e1).ex) (r1.show fun p z => (r.own p z).1)⟩
/-- a new list is handed back; an owned one -/
@[simp] def mRetF (m : En → Option (List D)) : En → Option Out := fun E => (m E).map .rf
theorem ds_retF {e : Expr} {m : En → Option (List D)} (h : DF X e m) : DS X (.Return (some e) pos) (mRetF m) := ⟨_, ps_ret h.pe, fun hid O B H σ E o Dn r hm k => by
  obtain ⟨ds, h1, rfl⟩ := map_some hm
  exact h.si hid O B H σ E ds r h1 _ fun p xs H1 hp e1 hx r1 => k p xs H1 (Evl.fresh_back r.ex hp) ((r.grow e1).ex) hx (r1.mono (rem_sub fun a z => by
    rcases z with z | z
    · exact .inl (.inl z)
    · exact .inr z) ds)⟩
@[simp] def mRetO (i : Nat) : En → Option Out := fun E => match E[i]? with
  | some (.ow ds) => some (.rf ds)
  | some (.fz d) => some (.rt d)
  | _ => none
theorem ds_retO (i : Nat) {x : Str} {p : Pos} (hN : X.N[i]? = some x := by rfl) (hv : Vis X.env.scope x := by first | exact Or.inl rfl | exact Or.inr (Or.inl rfl) | exact Or.inr (Or.inr rfl)) (hd : (x == ("__debug__" : Str)) = false := by decide)
    (hcd : (x == ("__classdict__" : Str)) = false := by decide) : DS X (.Return (some (.Name x p)) pos) (mRetO i) := ⟨_, ps_ret (pe_var hN hv hd hcd), fun hid O B H σ E o Dn r hm k => by
  unfold mRetO at hm
  split at hm
  · rename_i ds h
    cases hm
    obtain ⟨q, xs, h1, h2, h3, h4⟩ := r.ow i ds h
    refine ⟨.ref q, h1, k q xs H ?_ r.ex h3 (h4.mono (rem_sub fun a z => ?_) ds)⟩
    · cases e : B q with
      | none => rfl
      | some u => exact absurd h2 (r.base q u e).2
    · rcases z with z | z
      · exact .inl z
      · exact .inr (z ▸ h2)
  · rename_i d h
    cases hm
    obtain ⟨v, h1, h2⟩ := r.fz i d h
    exact ⟨v, h1, k v H r.ex (h2.mono (rem_sub fun a z => .inl z) d)⟩
  · cases hm⟩
theorem ds_retN : DS X (.Return none pos) (fun _ => some (.rt .non)) := ⟨_, ps_retN, fun hid O B H σ E o Dn r hm k => by
  cases hm
  exact k .non H r.ex .non⟩
/-- x = e -/
@[simp] def mSet (i : Nat) (m : En → Option D) : En → Option Out := fun E => (m E).map fun d => .nx (E.set i (.fz d))
theorem ds_set (i : Nat) {x : Str} {e : Expr} {m : En → Option D} {pos' : Pos} (hN : X.N.Nodup) (he : DE X e m) (hi : X.N[i]? = some x := by rfl) (hx : Loc X.env.scope x := by first | exact Or.inl rfl | exact Or.inr rfl) (hs : swapsWith e (some (.Name x pos')) pos.line X.env = pure false := by rfl)
    (hf : X.fn x = true ∨ X.env.scope.names.lookup x = some .local := by first | exact .inl rfl | exact .inr rfl) : DS X (.Assign [.Name x pos'] e pos) (mSet i m) := ⟨_, ps_set hN hi hx he.pe hs hf, fun hid O B H σ E o Dn r hm k => by
  obtain ⟨d, h1, rfl⟩ := map_some hm
  exact he.si hid O B H σ E d r h1 _ fun v H1 e1 r1 => k O _ H1 ((r.grow e1).put i r1)⟩
/-- x = e, e a new list that x then owns -/
@[simp] def mSetO (i : Nat) (m : En → Option (List D)) : En → Option Out := fun E => (m E).map fun ds => .nx (E.set i (.ow ds))
theorem ss_setO {K : PySem.W.Frag} (i : Nat) {te : TE} {m : En → Option (List D)} (h : SF K te m) : SS K (tAsg te (gName i)) (mSetO i m) := fun hid O B H σ E o Dn r hm k => by
  obtain ⟨ds, h1, rfl⟩ := map_some hm
  exact h hid O B H σ E ds r h1 _ fun p xs H1 hp e1 hx r1 => k _ _ H1 (r.putO i hp e1 hx r1)
theorem ds_setO (i : Nat) {x : Str} {e : Expr} {m : En → Option (List D)} {pos' : Pos} (hN : X.N.Nodup) (he : DF X e m) (hi : X.N[i]? = some x := by rfl) (hx : Loc X.env.scope x := by first | exact Or.inl rfl | exact Or.inr rfl) (hs : swapsWith e (some (.Name x pos')) pos.line X.env = pure false := by rfl)
    (hf : X.fn x = true ∨ X.env.scope.names.lookup x = some .local := by first | exact .inl rfl | exact .inr rfl) : DS X (.Assign [.Name x pos'] e pos) (mSetO i m) := ⟨_, ps_set hN hi hx he.pe hs hf, ss_setO i he.si⟩
/-- targets = e -/
@[simp] def mAsg (g : En → D → Option En) (m : En → Option D) : En → Option Out := fun E => (m E).bind fun d => (g E d).map .nx
theorem ds_asg {tg e : Expr} {js : List Nat} {m : En → Option D} {mg : En → D → Option En} (he : DE X e m) (hg : DG X tg js mg) (hs : swapsWithSole [tg] e pos.line X.env = pure false := by rfl) (hw : swappedStores [tg] e X.env = pure none := by rfl)
    (h1 : (assignEach [tg] X.env).map (·.2) = [assign tg X.env] := by rfl) : DS X (.Assign [tg] e pos) (mAsg mg m) := ⟨_, ps_asg he.pe hg.pg hs hw h1, fun hid O B H σ E o Dn r hm k => by
  obtain ⟨d, h1, hm⟩ := bind_some hm
  obtain ⟨E', h2, rfl⟩ := map_some hm
  exact he.si hid O B H σ E d r h1 _ fun v H1 e1 r1 => hg.si hid O B H1 σ E v d E' (r.grow e1) r1 h2 _ fun σ' r' _ => k O σ' H1 r'⟩
/-- e as a statement -/
@[simp] def mDrop (m : En → Option D) : En → Option Out := fun E => (m E).map fun _ => .nx E
theorem ds_expr {e : Expr} {m : En → Option D} (he : DE X e m) (hs : swapsWith e none pos.line X.env = pure false := by rfl) : DS X (.Expr e pos) (mDrop m) := ⟨_, ps_expr he.pe hs, fun hid O B H σ E o Dn r hm k => by
  obtain ⟨d, h1, rfl⟩ := map_some hm
  exact he.si hid O B H σ E d r h1 _ fun v H1 e1 r1 => k O σ H1 (r.grow e1)⟩
@[simp] def mIfS (c : En → Option Bool) (a b : En → Option Out) : En → Option Out := fun E => (c E).bind fun k => if k = true then a E else b E
theorem ds_if {c : Expr} {a b : List Stmt} {mc : En → Option Bool} (hc : DB X c mc) (ha : DSs X a m) (hb : DSs X b n) : DS X (.If c a b pos) (mIfS mc m n) := ⟨_, ps_if hc.pt ha.ps hb.ps, fun hid O B H σ E o Dn r hm k => by
  obtain ⟨b, h1, hm⟩ := bind_some hm
  refine hc.si hid O B H σ E b r h1 _ fun H1 e1 => ?_
  cases b with
  | true =>
    rw [if_pos rfl] at hm ⊢
    exact ha.si hid O B H1 σ E o Dn (r.grow e1) hm k
  | false =>
    rw [if_neg Bool.false_ne_true] at hm ⊢
    exact hb.si hid O B H1 σ E o Dn (r.grow e1) hm k⟩
/-! loops -/
def runFor (mg : En → D → Option En) (mb : En → Option Out) : List D → En → Option Out
  | [], E => some (.nx E)
  | d :: ds, E => (mg E d).bind fun E1 => (mb E1).bind fun o => match o with
    | .nx E2 => runFor mg mb ds E2
    | .ct E2 => runFor mg mb ds E2
    | .bk E2 => some (.nx E2)
    | .rt r => some (.rt r)
    | .rf r => some (.rf r)
    | .tf d r => some (.tf d r)
@[simp] def mFor (mi : En → Option (List D)) (mg : En → D → Option En) (mb : En → Option Out) : En → Option Out := fun E => (mi E).bind fun ds => runFor mg mb ds E
theorem ss_for {K : PySem.W.Frag} {wi : TI} {g : TG} {tb : TS} {js : List Nat} {mi : En → Option (List D)} {mg : En → D → Option En} {mb : En → Option Out} (hi : SI K wi mi) (hg : SG K g js mg) (hb : SS K tb mb) : SS K (tFor wi g tb) (mFor mi mg mb) := fun hid O B H σ E o Dn r hm k => by
  obtain ⟨ds, h1, hm⟩ := bind_some hm
  refine hi hid O B H σ E ds r h1 _ fun J H2 G Y e2 w hG hY => ?_
  have r2 := r.grow e2
  have rb := r2.rebase
  have back : ∀ {O' H' σ' E'}, RE K hid O' (rem O H2) H' σ' E' → RE K hid O' B H' σ' E' := fun q => q.back r2.old r.hidd
  have vis : ∀ {O' H' σ' E'}, RE K hid O' (rem O H2) H' σ' E' → Ex (rem (orS hid O) H2) (rem (orS hid O') H') := fun q a u z => by
    obtain ⟨z1, z2⟩ := rem_some.mp z
    obtain ⟨z3, z4⟩ := q.base a u (rem_some.mpr ⟨fun y => z1 (.inr y), z2⟩)
    refine rem_some.mpr ⟨fun y => ?_, z3⟩
    rcases y with y | y
    · exact z1 (.inl y)
    · exact z4 y
  refine for_it w (fun i σ' H' => ∃ O' E', RE K hid O' (rem O H2) H' σ' E' ∧ runFor mg mb (ds.drop i) E' = some o) ⟨O, E, rb, hm⟩ (fun i σ' H' _ p => ?_) (fun i x σ' H3 H4 hi p y => ?_) (fun σ' H' p => ?_)
  · obtain ⟨O', E', q, _⟩ := p
    exact hG H' (Ex.trans (vis q) rem_ex)
  · obtain ⟨O', E', q, hr⟩ := p
    rw [List.drop_eq_getElem_cons hi] at hr
    obtain ⟨E1, k1, hr⟩ := bind_some hr
    obtain ⟨o1, k2, hr⟩ := bind_some hr
    obtain ⟨e4, rx⟩ := hY i H3 x H4 (orS hid O') ds[i] y (List.getElem?_eq_getElem hi) (vis q) fun p hp => q.fresh hp
    refine hg hid O' (rem O H2) H4 σ' E' x ds[i] E1 (q.grow e4) rx k1 _ fun σ2 r3 _ => ?_
    refine hb hid O' (rem O H2) H4 σ2 E1 o1 _ r3 k2 ?_
    cases o1 with
    | nx E2 => exact fun O5 σ5 H5 r5 => ⟨O5, E2, r5, hr⟩
    | ct E2 => exact fun O5 σ5 H5 r5 => ⟨O5, E2, r5, hr⟩
    | bk E2 => cases hr; exact fun O5 σ5 H5 r5 => k O5 σ5 H5 (back r5)
    | rt d => cases hr; exact fun v H5 e5 r5 => k v H5 (Ex.trans (Ex.trans r2.old (Ex.refl _)) e5) r5
    | rf d => cases hr; exact fun p xs H5 hp e5 hx r5 => k p xs H5 (Evl.fresh_back r2.old hp) (Ex.trans r2.old e5) hx r5
    | tf d0 d => cases hr; exact fun q v p xs H5 hp e5 hx r5 => k q v p xs H5 (Evl.fresh_back r2.old hp) (Ex.trans r2.old e5) hx r5
  · obtain ⟨O', E', q, hr⟩ := p
    rw [List.drop_length] at hr
    cases hr
    exact k O' σ' H' (back q)
theorem ds_for {tg iter : Expr} {body : List Stmt} {js : List Nat} {mi : En → Option (List D)} {mg : En → D → Option En} {mb : En → Option Out} (hp : PassesOwn (model X.prog X.w) X.A X.env X.xe) (hc : X.calm = true) (hi : DI X tg iter mi) (hg : DG X tg js mg) (hb : DSs X body mb)
    (hs : ∀ x, foldedSetIterable iter X.env x = pure x := by intro _; rfl) : DS X (.For tg iter body [] pos) (mFor mi mg mb) := ⟨_, ps_for hp hc hi.pi hg.pg hb.ps hs, ss_for hi.si hg.si hb.si⟩
def runWhile (mc : En → Option Bool) (mb : En → Option Out) : Nat → En → Option Out
  | 0, _ => none
  | n + 1, E => (mc E).bind fun b => if b = true then (mb E).bind fun o => match o with
    | .nx E2 => runWhile mc mb n E2
    | .ct E2 => runWhile mc mb n E2
    | .bk E2 => some (.nx E2)
    | .rt r => some (.rt r)
    | .rf r => some (.rf r)
    | .tf d r => some (.tf d r)
    else some (.nx E)
def mWhile (fuel : Nat) (mc : En → Option Bool) (mb : En → Option Out) : En → Option Out := fun E => runWhile mc mb fuel E
theorem ss_while {K : PySem.W.Frag} (fuel : Nat) {tc : TT} {tb : TS} {mc : En → Option Bool} {mb : En → Option Out} (hc : SB K tc mc) (hb : SS K tb mb) : SS K (tWhile tc tb) (mWhile fuel mc mb) := fun hid O B H σ E o Dn r hm k => by
  refine ⟨fun n σ' H' => ∃ O' E', RE K hid O' B H' σ' E' ∧ runWhile mc mb n E' = some o, ⟨fuel, O, E, r, hm⟩, fun n σ' H' p => ?_⟩
  obtain ⟨O', E', q, hr⟩ := p
  cases n with
  | zero => cases hr
  | succ n =>
    obtain ⟨b, k1, hr⟩ := bind_some hr
    refine hc hid O' B H' σ' E' b q k1 _ fun H1 e1 => ?_
    cases b with
    | true =>
      rw [if_pos rfl] at hr ⊢
      obtain ⟨o1, k2, hr⟩ := bind_some hr
      refine ⟨fun σ2 H2 => ∃ O2 E2, RE K hid O2 B H2 σ2 E2 ∧ runWhile mc mb n E2 = some o, fun σ2 H2 z => ⟨n, Nat.lt_succ_self n, z⟩, ?_⟩
      refine hb hid O' B H1 σ' E' o1 _ (q.grow e1) k2 ?_
      cases o1 with
      | nx E2 => exact fun O5 σ5 H5 r5 => ⟨O5, E2, r5, hr⟩
      | ct E2 => exact fun O5 σ5 H5 r5 => ⟨O5, E2, r5, hr⟩
      | bk E2 => cases hr; exact k
      | rf E2 => cases hr; exact k
      | tf d0 E2 => cases hr; exact k
      | rt d => cases hr; exact k
    | false =>
      rw [if_neg Bool.false_ne_true] at hr ⊢
      cases hr
      exact k O' σ' H1 (q.grow e1)
theorem ds_while (fuel : Nat) {c : Expr} {body : List Stmt} {mc : En → Option Bool} {mb : En → Option Out} (hp : PassesOwn (model X.prog X.w) X.A X.env X.xe) (hc : DB X c mc) (hb : DSs X body mb) : DS X (.While c body [] pos) (mWhile fuel mc mb) :=
  ⟨_, ps_while hp hc.pt hb.ps, ss_while fuel hc.si hb.si⟩
end
end Sx

set_option Elab.async false
set_option linter.all false
set_option maxRecDepth 100000
set_option maxHeartbeats 1000000
namespace Sx
open PySem PySem.Spec PyProof.Rows L2
open Evl (Ex)

/-! ### built-in functions -/
section
variable {X : Cx} {a b : Expr} {ta tb : TE} {ma mb : En → Option D} {p pos : Pos}
/-- one argument -/
theorem se_call1 {K : PySem.W.Frag} {r : List V → Hp → VK → Prop} {f : D → Option D} (ha : ST K ta ma)
    (h : ∀ (hid O : AS) (H : Hp) (v : V) (x d : D), Al hid O H → Tv K hid O H v x → f x = some d → ∀ Q : VK, (∀ w H', Ex H H' → Rp K (rem (orS hid O) H') w d → Q w H') → r [v] H Q) : SE K (tCB r (tCons ta tNil)) (mUn f ma) := fun hid O B H σ E d re hm Q q => by
  obtain ⟨x, h1, hm⟩ := bind_some hm
  refine ha hid O B H σ E x re h1 _ fun v H1 e1 r1 => ?_
  exact h hid O H1 v x d (al_of (re.grow e1)) r1 hm Q fun w H2 e2 r2 => q w H2 (e1.trans e2) r2
abbrev rLenQ (K : PySem.W.Frag) : List V → Hp → VK → Prop := fun xs H Q => ∃ p ys, xs = [V.ref p] ∧ (SqL K H p ys ∨ SqT K H p ys) ∧ Q (.int ys.length) H
abbrev rLenS : List V → Hp → VK → Prop := fun xs H Q => ∃ z : Str, xs = [V.str z] ∧ z.length ≤ sizeLine ∧ Q (.int z.length) H
abbrev rLenAll (K : PySem.W.Frag) : List V → Hp → VK → Prop := fun xs H Q => rLenQ K xs H Q ∨ rLenS xs H Q
@[simp] def lenD : D → Option D
  | .lst ds => some (.int ds.length)
  | .tup ds => some (.int ds.length)
  | .scr ns => some (.int ns.length)
  | .str z => if z.length ≤ 100000 then some (.int z.length) else none
  | _ => none
theorem de_len (hm : X.mg "len" = none) (ha : DT X a ma) (hg : Gl X "len" := by rfl) (hs : starEach [a] X.env = (false, eval a X.env) :: starEach [] X.env := by rfl) (hpl : (backTo pos (starEach [] X.env)).any (·.1) = false := by rfl) :
    DE X (.Call (.Name "len" p) [a] [] pos) (mUn lenD ma) := ⟨_, pe_callB (CallR.or call_len_seq call_len_str) hg hm PySem.boot_len (pa_cons ha.pe pa_nil hs) (by decide) (by decide) hs hpl, se_call1 ha.si fun hid O H v x d al rv hx Q q => by
  unfold lenD at hx
  split at hx
  · cases hx
    obtain ⟨p, xs, rfl, h1, h2⟩ := rv.seq
    refine .inl ⟨p, xs, rfl, .inl h1, ?_⟩
    rw [h2.length]
    exact q _ H (Ex.refl H) (.int _)
  · cases hx
    obtain ⟨p, xs, rfl, h1, h2⟩ := rv.tup
    refine .inl ⟨p, xs, rfl, .inr (Evl.ex_t rem_ex h1), ?_⟩
    rw [h2.length]
    exact q _ H (Ex.refl H) (.int _)
  · cases hx
    obtain ⟨p, rfl, h1⟩ := rv.scr
    refine .inl ⟨p, _, rfl, .inl h1, ?_⟩
    rw [List.length_map]
    exact q _ H (Ex.refl H) (.int _)
  · obtain ⟨h1, rfl⟩ := ite_some hx
    obtain rfl := rv.str
    exact .inr ⟨_, rfl, size_le h1, q _ H (Ex.refl H) (.int _)⟩
  · cases hx⟩
/-- int(x) of an int, of a bool -/
@[simp] def intD : D → Option D
  | .int i => some (.int i)
  | .bl b => some (.int (if b = true then 1 else 0))
  | _ => none
theorem de_int1 (hm : X.mg "int" = none) (ha : DT X a ma) (hg : Gl X "int" := by rfl) (hs : starEach [a] X.env = (false, eval a X.env) :: starEach [] X.env := by rfl) (hpl : (backTo pos (starEach [] X.env)).any (·.1) = false := by rfl) :
    DE X (.Call (.Name "int" p) [a] [] pos) (mUn intD ma) := ⟨_, pe_callTy call_int1 hg hm boot_int (pa_cons ha.pe pa_nil hs) (by decide) (by decide) hs hpl, se_call1 ha.si fun hid O H v x d al rv hx Q q => by
  unfold intD at hx
  split at hx
  · cases hx
    exact .inl ⟨_, by rw [rv.int], q _ H (Ex.refl H) (.int _)⟩
  · cases hx
    exact .inr ⟨_, by rw [rv.bl], q _ H (Ex.refl H) (.int _)⟩
  · cases hx⟩
@[simp] def minD : D → D → Option D
  | .int i, .int j => some (.int (if j < i then j else i))
  | _, _ => none
@[simp] def maxD : D → D → Option D
  | .int i, .int j => some (.int (if j > i then j else i))
  | _, _ => none
theorem de_min2 (hc : X.calm = true) (hm : X.mg "min" = none) (ha : DT X a ma) (hb : DT X b mb) (hg : Gl X "min" := by rfl) (hs : starEach [a, b] X.env = (false, eval a X.env) :: starEach [b] X.env := by rfl) (hs2 : starEach [b] X.env = (false, eval b X.env) :: starEach [] X.env := by rfl) (hpl : (backTo pos (starEach [b] X.env)).any (·.1) = false := by rfl) :
    DE X (.Call (.Name "min" p) [a, b] [] pos) (mBin minD ma mb) := ⟨_, pe_callB (call_min2 hc) hg hm (by decide +kernel) (pa_cons ha.pe (pa_cons hb.pe pa_nil hs2) hs) (by decide) (by decide) hs hpl, fun hid O B H σ E d re hm Q q => by
  obtain ⟨x, h1, hm⟩ := bind_some hm
  obtain ⟨y, h2, hm⟩ := bind_some hm
  unfold minD at hm
  split at hm
  · cases hm
    refine ha.si hid O B H σ E _ re h1 _ fun v H1 e1 r1 => ?_
    refine hb.si hid O B H1 σ E _ (re.grow e1) h2 _ fun u H2 e2 r2 => ?_
    exact ⟨_, _, by rw [r1.int, r2.int], q _ H2 (e1.trans e2) (.int _)⟩
  · cases hm⟩
theorem de_max2 (hc : X.calm = true) (hm : X.mg "max" = none) (ha : DT X a ma) (hb : DT X b mb) (hg : Gl X "max" := by rfl) (hs : starEach [a, b] X.env = (false, eval a X.env) :: starEach [b] X.env := by rfl) (hs2 : starEach [b] X.env = (false, eval b X.env) :: starEach [] X.env := by rfl) (hpl : (backTo pos (starEach [b] X.env)).any (·.1) = false := by rfl) :
    DE X (.Call (.Name "max" p) [a, b] [] pos) (mBin maxD ma mb) := ⟨_, pe_callB (call_max2 hc) hg hm (by decide +kernel) (pa_cons ha.pe (pa_cons hb.pe pa_nil hs2) hs) (by decide) (by decide) hs hpl, fun hid O B H σ E d re hm Q q => by
  obtain ⟨x, h1, hm⟩ := bind_some hm
  obtain ⟨y, h2, hm⟩ := bind_some hm
  unfold maxD at hm
  split at hm
  · cases hm
    refine ha.si hid O B H σ E _ re h1 _ fun v H1 e1 r1 => ?_
    refine hb.si hid O B H1 σ E _ (re.grow e1) h2 _ fun u H2 e2 r2 => ?_
    exact ⟨_, _, by rw [r1.int, r2.int], q _ H2 (e1.trans e2) (.int _)⟩
  · cases hm⟩
/-! lists of ints -/
def allInts : List D → Option (List Int)
  | [] => some []
  | .int i :: ds => (allInts ds).map (i :: ·)
  | _ :: _ => none
theorem allInts_some : ∀ {ds : List D} {ns : List Int}, allInts ds = some ns → ds = ns.map .int
  | [], ns, h => by cases h; rfl
  | .int i :: ds, ns, h => by
    obtain ⟨ms, h1, rfl⟩ := map_some (show (allInts ds).map (i :: ·) = some ns from h)
    rw [allInts_some h1]
    rfl
  | .non :: ds, ns, h => by cases h
  | .bl _ :: ds, ns, h => by cases h
  | .str _ :: ds, ns, h => by cases h
  | .lst _ :: ds, ns, h => by cases h
  | .tup _ :: ds, ns, h => by cases h
  | .scr _ :: ds, ns, h => by cases h
theorem allInts_map : ∀ (ns : List Int), allInts (ns.map .int) = some ns
  | [] => rfl
  | n :: ns => by
    show (allInts (ns.map .int)).map (n :: ·) = _
    rw [allInts_map ns]
    rfl
@[simp] def intsOf : D → Option (List Int)
  | .lst ds => allInts ds
  | .scr ns => some ns
  | _ => none
theorem ints_tv {K : PySem.W.Frag} {hid O : AS} {H : Hp} {v : V} {x : D} {ns : List Int} (rv : Tv K hid O H v x) (h : intsOf x = some ns) : ∃ p, v = .ref p ∧ SqL K H p (ns.map V.int) := by
  unfold intsOf at h
  split at h
  · obtain ⟨p, xs, rfl, h1, h2⟩ := rv.seq
    rw [allInts_some h] at h2
    rw [RpL.ints_of h2] at h1
    exact ⟨p, rfl, h1⟩
  · cases h
    exact rv.scr
  · cases h
@[simp] def sumD (d : D) : Option D := (intsOf d).map fun ns => .int ns.sum
theorem de_sum (hc : X.calm = true) (hm : X.mg "sum" = none) (ha : DT X a ma) (hg : Gl X "sum" := by rfl) (hs : starEach [a] X.env = (false, eval a X.env) :: starEach [] X.env := by rfl) (hpl : (backTo pos (starEach [] X.env)).any (·.1) = false := by rfl) :
    DE X (.Call (.Name "sum" p) [a] [] pos) (mUn sumD ma) := ⟨_, pe_callB (cr_sum hc) hg hm (by decide +kernel) (pa_cons ha.pe pa_nil hs) (by decide) (by decide) hs hpl, se_call1 ha.si fun hid O H v x d al rv hx Q q => by
  obtain ⟨ns, h1, rfl⟩ := map_some hx
  obtain ⟨p, rfl, h2⟩ := ints_tv rv h1
  exact ⟨p, ns, rfl, h2, q _ H (Ex.refl H) (.int _)⟩⟩
/-- list(x) of a list, of a tuple -/
@[simp] def seqOf : D → Option (List D)
  | .lst ds => some ds
  | .tup ds => some ds
  | .scr ns => some (ns.map .int)
  | _ => none
theorem df_list (hm : X.mg "list" = none) (ha : DT X a ma) (hg : Gl X "list" := by rfl) (hs : starEach [a] X.env = (false, eval a X.env) :: starEach [] X.env := by rfl) (hpl : (backTo pos (starEach [] X.env)).any (·.1) = false := by rfl) :
    DF X (.Call (.Name "list" p) [a] [] pos) (fun E => (ma E).bind seqOf) := ⟨_, pe_callTy call_list_of hg hm (by decide +kernel) (pa_cons ha.pe pa_nil hs) (by decide) (by decide) hs hpl, fun hid O B H σ E ds re hm Q q => by
  obtain ⟨x, h1, hm⟩ := bind_some hm
  refine ha.si hid O B H σ E _ re h1 _ fun v H1 e1 r1 => ?_
  unfold seqOf at hm
  split at hm
  · cases hm
    obtain ⟨p, xs, rfl, h1, h2⟩ := r1.seq
    refine ⟨p, xs, rfl, .inl h1, fun l hl => ?_⟩
    have ex : Ex H1 (upd H1 l (.lst xs)) := Ex.new hl
    exact q l _ _ (Evl.fresh_back e1 hl) (e1.trans ex) upd_same (h2.mono (rem_new hl ex) _)
  · cases hm
    obtain ⟨p, xs, rfl, h1, h2⟩ := r1.tup
    refine ⟨p, xs, rfl, .inr (Evl.ex_t rem_ex h1), fun l hl => ?_⟩
    have ex : Ex H1 (upd H1 l (.lst xs)) := Ex.new hl
    exact q l _ _ (Evl.fresh_back e1 hl) (e1.trans ex) upd_same (h2.mono (rem_new hl ex) _)
  · cases hm
    obtain ⟨p, rfl, h1⟩ := r1.scr
    refine ⟨p, _, rfl, .inl h1, fun l hl => ?_⟩
    exact q l _ _ (Evl.fresh_back e1 hl) (e1.trans (Ex.new hl)) upd_same (RpL.ints _)
  · cases hm⟩
/-- tuple(x) of a list, of a tuple -/
@[simp] def tupleD : D → Option D
  | .lst ds => some (.tup ds)
  | .tup ds => some (.tup ds)
  | _ => none
theorem de_tuple (hm : X.mg "tuple" = none) (ha : DT X a ma) (hg : Gl X "tuple" := by rfl) (hs : starEach [a] X.env = (false, eval a X.env) :: starEach [] X.env := by rfl) (hpl : (backTo pos (starEach [] X.env)).any (·.1) = false := by rfl) :
    DE X (.Call (.Name "tuple" p) [a] [] pos) (mUn tupleD ma) := ⟨_, pe_callTy call_tuple_of hg hm (by decide +kernel) (pa_cons ha.pe pa_nil hs) (by decide) (by decide) hs hpl, se_call1 ha.si fun hid O H v x d al rv hx Q q => by
  unfold tupleD at hx
  split at hx
  · cases hx
    obtain ⟨p, xs, rfl, h1, h2⟩ := rv.seq
    refine ⟨p, xs, rfl, .inl ⟨h1, fun l hl => ?_⟩⟩
    have ex : Ex H (upd H l (.tup xs)) := Ex.new hl
    exact q _ _ ex (.tup (Evl.st_of (vis_new (al l hl) upd_same)) (h2.mono (rem_mono ex) _))
  · cases hx
    obtain ⟨p, xs, rfl, h1, h2⟩ := rv.tup
    exact ⟨p, xs, rfl, .inr ⟨Evl.ex_t rem_ex h1, q _ H (Ex.refl H) (.tup h1 h2)⟩⟩
  · cases hx⟩
/-! sorted -/
def insI (x : Int) : List Int → List Int
  | [] => [x]
  | y :: ys => if x ≤ y then x :: y :: ys else y :: insI x ys
def sortI : List Int → List Int
  | [] => []
  | x :: xs => insI x (sortI xs)
theorem insI_perm (x : Int) : ∀ ys, (insI x ys).Perm (x :: ys)
  | [] => .refl _
  | y :: ys => by
    unfold insI
    split
    · exact .refl _
    · exact ((insI_perm x ys).cons y).trans (.swap x y ys)
theorem sortI_perm : ∀ xs, (sortI xs).Perm xs
  | [] => .refl _
  | x :: xs => (insI_perm x (sortI xs)).trans ((sortI_perm xs).cons x)
theorem insI_le {x : Int} : ∀ {ys : List Int}, ys.Pairwise (· ≤ ·) → (insI x ys).Pairwise (· ≤ ·)
  | [], _ => List.pairwise_singleton _ _
  | y :: ys, h => by
    unfold insI
    obtain ⟨h1, h2⟩ := List.pairwise_cons.mp h
    split
    · rename_i hx
      refine List.pairwise_cons.mpr ⟨fun z hz => ?_, h⟩
      rcases List.mem_cons.mp hz with e | e
      · rw [e]; exact hx
      · exact Int.le_trans hx (h1 z e)
    · rename_i hx
      refine List.pairwise_cons.mpr ⟨fun z hz => ?_, insI_le h2⟩
      rcases List.mem_cons.mp ((insI_perm x ys).mem_iff.mp hz) with e | e
      · rw [e]; omega
      · exact h1 z e
theorem sortI_le : ∀ xs : List Int, (sortI xs).Pairwise (· ≤ ·)
  | [] => .nil
  | x :: xs => insI_le (sortI_le xs)
theorem sorted_uniq : ∀ {xs ys : List Int}, xs.Perm ys → xs.Pairwise (· ≤ ·) → ys.Pairwise (· ≤ ·) → xs = ys
  | [], ys, p, _, _ => by rw [List.nil_perm.mp p]
  | x :: xs, [], p, _, _ => by
    have := p.length_eq
    simp at this
  | x :: xs, y :: ys, p, h1, h2 => by
    obtain ⟨a1, a2⟩ := List.pairwise_cons.mp h1
    obtain ⟨b1, b2⟩ := List.pairwise_cons.mp h2
    have e : x = y := by
      have hx : x ∈ y :: ys := p.mem_iff.mp (List.mem_cons_self ..)
      have hy : y ∈ x :: xs := p.mem_iff.mpr (List.mem_cons_self ..)
      have l1 : y ≤ x := by
        rcases List.mem_cons.mp hx with z | z
        · rw [z]; exact Int.le_refl _
        · exact b1 x z
      have l2 : x ≤ y := by
        rcases List.mem_cons.mp hy with z | z
        · rw [z]; exact Int.le_refl _
        · exact a1 y z
      omega
    subst e
    rw [sorted_uniq p.cons_inv a2 b2]
theorem df_sorted (hm : X.mg "sorted" = none) (ha : DT X a ma) (hg : Gl X "sorted" := by rfl) (hs : starEach [a] X.env = (false, eval a X.env) :: starEach [] X.env := by rfl) (hpl : (backTo pos (starEach [] X.env)).any (·.1) = false := by rfl) :
    DF X (.Call (.Name "sorted" p) [a] [] pos) (fun E => ((ma E).bind intsOf).map fun ns => (sortI ns).map .int) := ⟨_, pe_callB cr_sortedI hg hm (by decide +kernel) (pa_cons ha.pe pa_nil hs) (by decide) (by decide) hs hpl, fun hid O B H σ E ds re hm Q q => by
  obtain ⟨ns, h1, rfl⟩ := map_some hm
  obtain ⟨x, h0, h1⟩ := bind_some h1
  refine ha.si hid O B H σ E _ re h0 _ fun v H1 e1 r1 => ?_
  obtain ⟨p, rfl, h2⟩ := ints_tv r1 h1
  refine ⟨p, ns, rfl, h2, fun ns' l hp hs hl => ?_⟩
  rw [sorted_uniq (hp.trans (sortI_perm ns).symm) hs (sortI_le ns)]
  exact q l _ _ (Evl.fresh_back e1 hl) (e1.trans (Ex.new hl)) upd_same (RpL.ints _)⟩
/-! len(set(list of ints)) -/
def tLenSetX (K : PySem.W.Frag) (ta : TE) : TE := fun σ H Q => ta σ H fun x H1 => ∃ (l : Addr) (ns : List Int), x = V.ref l ∧ SqL K H1 l (ns.map V.int) ∧ ns.length < 4000 ∧ Q (.int (firstMet (fun i => ns.getD i 0) ns.length).length) H1
theorem pe_lenSetX {p2 q : Pos} (hc : X.calm = true) (hg : Gl X "len") (hm : X.mg "len" = none) (hg2 : Gl X "set") (hm2 : X.mg "set" = none) (ha : PE X a ta)
    (na : starEach [a] X.env = (false, eval a X.env) :: starEach [] X.env := by rfl) : PE X (.Call (.Name "len" p) [.Call (.Name "set" p2) [a] [] q] [] pos) (tLenSetX X.K ta) := by
  refine ⟨fun pins s σ H Q I h => ?_⟩
  refine Call_ (ld_blt I hg hm PySem.boot_len ?_)
  refine PyProof.Rows.callWith_builtin1 (PyProof.Rows.args_cons ?_ rfl) rfl rfl
  refine Call_ (ld_blt I hg2 hm2 PyProof.Rows.boot_set ?_)
  refine PyProof.Rows.callWith_type1 (PyProof.Rows.args_cons (thn (ha.run pins s σ H _ I h) fun v s1 ⟨x, H1, I1, r1, q1⟩ => PyProof.Rows.args_nil ?_) na) na rfl
  obtain ⟨l, ns, rfl, hq, h1, q1⟩ := q1
  cases r1
  obtain ⟨its, r, pl, hz⟩ := I1.list hq
  have hl : its.toArray.size = ns.length := by rw [List.size_toArray, ← r.length, List.length_map]
  refine call_set_list (I1.ok.hd hc) pl.isList (ns := ns) (by simpa using r.ints) (by unfold scanBound; omega) fun h' tk hS hk => ?_
  rw [hl] at hS
  refine PyProof.Rows.args_nil ?_
  obtain ⟨o, es, ep, t, ho, hex, hd, _, _, _, hf, hn⟩ := hS
  have I2 : Inv X pins σ H1 { s1 with heap := h', toks := tk } := I1.kept fun b o e => hk b o (Heap.lt_size e) e
  have hle := firstMet_length_le (fun i => ns.getD i 0) ns.length
  refine call_len_set ho hex hd hf (by rw [hn] <;> omega) ⟨.int (firstMet (fun i => ns.getD i 0) ns.length).length, H1, I2.tok _, ⟨_, by rw [hn]⟩, q1⟩
@[simp] def lenSetD (d : D) : Option D := (intsOf d).bind fun ns => if ns.length < 4000 then some (.int (firstMet (fun i => ns.getD i 0) ns.length).length) else none
theorem de_lenSet {p2 q : Pos} (hc : X.calm = true) (hm : X.mg "len" = none) (hm2 : X.mg "set" = none) (ha : DT X a ma) (hg : Gl X "len" := by rfl) (hg2 : Gl X "set" := by rfl) (na : starEach [a] X.env = (false, eval a X.env) :: starEach [] X.env := by rfl) :
    DE X (.Call (.Name "len" p) [.Call (.Name "set" p2) [a] [] q] [] pos) (mUn lenSetD ma) := ⟨_, pe_lenSetX hc hg hm hg2 hm2 ha.pe na, fun hid O B H σ E d re hm Q q => by
  obtain ⟨x, h1, hm⟩ := bind_some hm
  obtain ⟨ns, h2, hm⟩ := bind_some hm
  obtain ⟨h3, rfl⟩ := ite_some hm
  refine ha.si hid O B H σ E _ re h1 _ fun v H1 e1 r1 => ?_
  obtain ⟨p, rfl, h4⟩ := ints_tv r1 h2
  exact ⟨p, ns, rfl, h4, h3, q _ H1 e1 (.int _)⟩⟩
/-! isinstance of a built-in type -/
@[simp] def tyName : D → Option String
  | .non => some "NoneType"
  | .bl _ => some "bool"
  | .int _ => some "int"
  | .str _ => some "str"
  | .lst _ => some "list"
  | .tup _ => some "tuple"
  | .scr _ => some "list"
  | _ => none
theorem tyX_of {K : PySem.W.Frag} {hid O : AS} {H : Hp} {v : V} {d : D} {t : String} (rv : Tv K hid O H v d) (ht : tyName d = some t) : TyX K H v (.type t) := by
  cases d with
  | non => cases ht; rw [rv.non]; exact .base .non
  | bl b => cases ht; rw [rv.bl]; exact .base (.bl b)
  | int b => cases ht; rw [rv.int]; exact .base (.int b)
  | str b => cases ht; rw [rv.str]; exact .base (.str b)
  | dct _ _ => cases ht
  | obj _ _ _ => cases ht
  | lst ds =>
    cases ht
    obtain ⟨p, xs, rfl, h1, h2⟩ := rv.lst
    exact .base (.lst h1)
  | tup ds =>
    cases ht
    obtain ⟨p, xs, rfl, h1, h2⟩ := rv.tup
    rcases (Evl.ex_t (K := K) rem_ex h1) with (h | ⟨o, h⟩) | ⟨o, its, n, h, hc, _⟩
    · exact .base (.tup h)
    · exact .fTuple h
    · exact .kTuple h hc
  | scr ns =>
    cases ht
    obtain ⟨p, rfl, h1⟩ := rv.scr
    rcases h1 with (h | ⟨o, h⟩) | ⟨o, its, n, h, hc, _⟩
    · exact .base (.lst h)
    · exact .base (.frz h)
    · exact .kList h hc
@[simp] def isiD (T : String) (d : D) : Option D := (tyName d).bind fun t => (kitB t T).map .bl
theorem de_isi {T : Str} {T' : String} {p2 : Pos} (hm : X.mg "isinstance" = none) (hm2 : X.mg T = none) (hv : bootBuiltins T = some (.type T')) (ha : DT X a ma) (hg : Gl X "isinstance" := by rfl) (hg2 : Gl X T := by rfl) (hn : T ≠ "__name__" := by decide) (hd : (T == ("__debug__" : Str)) = false := by decide)
    (hs : starEach [a, .Name T p2] X.env = (false, eval a X.env) :: starEach [.Name T p2] X.env := by rfl) (hs2 : starEach [.Name T p2] X.env = (false, eval (.Name T p2) X.env) :: starEach [] X.env := by rfl) (hpl : (backTo pos (starEach [.Name T p2] X.env)).any (·.1) = false := by rfl) :
    DE X (.Call (.Name "isinstance" p) [a, .Name T p2] [] pos) (mUn (isiD T') ma) := ⟨_, pe_callB call_isi hg hm (by decide +kernel) (pa_cons ha.pe (pa_cons (pe_bltn (v := .ty T') hg2 hm2 hv rfl hn hd) pa_nil hs2) hs) (by decide) (by decide) hs hpl, fun hid O B H σ E d re hm Q q => by
  obtain ⟨x, h1, hm⟩ := bind_some hm
  obtain ⟨ty, ht, hm⟩ := bind_some hm
  obtain ⟨b, h2, rfl⟩ := map_some hm
  refine ha.si hid O B H σ E _ re h1 _ fun v H1 e1 r1 => ?_
  exact ⟨v, .ty T', _, .type T', b, rfl, .ty T', tyX_of r1 ht, kit_ty h2, q _ H1 e1 (.bl b)⟩⟩
end

/-! ### own defs -/
def spD (K : PySem.W.Frag) (n : Nat) (m : List D → Option D) : Sp := fun vs H Q _ => ∃ (hid : AS) (ds : List D) (d : D), (∀ a, hid a → IsM H a) ∧ RpL K (rem hid H) vs ds ∧ ds.length = n ∧ m ds = some d ∧ ∀ v H', Ex H H' → Rp K (rem hid H') v d → Q v H'
structure Cal (P : Program) (w : World) (K : PySem.W.Frag) (mg : Str → Option Value) (base : Heap) (x : Str) (k n : Nat) (m : List D → Option D) : Prop where
  ex : ∃ (f : Addr) (fd : FuncData) (ps : List Str), mg x = some (.ref f) ∧ FnOk P w K mg base CX0 k f fd ps (spD K n m) ∧ PySem.W.keepIn K (.ref f) = true ∧ Binds K fd ps []
@[simp] def mCall (n : Nat) (m : List D → Option D) (a : En → Option (List D)) : En → Option D := fun E => (a E).bind fun ds => if ds.length = n then m ds else none
mutual
/-- no list within -/
def nolst : D → Bool
  | .lst _ => false
  | .scr _ => false
  | .tup ds => nolsts ds
  | .dct _ _ => false
  | .obj _ _ _ => false
  | _ => true
def nolsts : List D → Bool
  | [] => true
  | d :: ds => nolst d && nolsts ds
end
section
variable {K : PySem.W.Frag} {H : Hp} {W : AS}
theorem rem_tup (hW : ∀ a, W a → IsM H a) {a : Addr} {xs : List V} (h : SqT K H a xs) : SqT K (rem W H) a xs := by
  rcases h with (h | ⟨o, h⟩) | h
  · refine .inl (.inl (rem_some.mpr ⟨fun z => ?_, h⟩))
    obtain ⟨o2, e, mu⟩ := hW a z
    rw [h] at e
    cases e
    exact mu.elim
  · refine .inl (.inr ⟨o, rem_some.mpr ⟨fun z => ?_, h⟩⟩)
    obtain ⟨o2, e, mu⟩ := hW a z
    rw [h] at e
    cases e
    exact mu.elim
  · exact .inr h
mutual
theorem nolst_rp (hW : ∀ a, W a → IsM H a) : ∀ (d : D) {v : V}, nolst d = true → Rp K H v d → Rp K (rem W H) v d
  | .non, _, _, h => by cases h; exact .non
  | .bl b, _, _, h => by cases h; exact .bl b
  | .int i, _, _, h => by cases h; exact .int i
  | .str x, _, _, h => by cases h; exact .str x
  | .lst ds, _, z, h => by
    rw [nolst] at z
    cases z
  | .tup ds, _, z, h => by
    rw [nolst] at z
    cases h with
    | tup h1 h2 => exact .tup (rem_tup hW h1) (nolsts_rp hW ds z h2)
  | .scr ns, _, z, h => by
    rw [nolst] at z
    cases z
theorem nolsts_rp (hW : ∀ a, W a → IsM H a) : ∀ (ds : List D) {vs : List V}, nolsts ds = true → RpL K H vs ds → RpL K (rem W H) vs ds
  | [], _, _, h => by cases h; exact .nil
  | d :: ds, _, z, h => by
    rw [nolsts] at z
    obtain ⟨z1, z2⟩ := Bool.and_eq_true_iff.mp z
    cases h with
    | cons h1 h2 => exact .cons (nolst_rp hW d z1 h1) (nolsts_rp hW ds z2 h2)
end
end
@[simp] def mCallT (n : Nat) (m : List D → Option D) (a : En → Option (List D)) : En → Option D := fun E => (a E).bind fun ds => if ds.length = n then (m ds).bind fun d => if nolst d = true then some d else none else none
section
variable {X : Cx} {x : Str} {k n : Nat} {m : List D → Option D} {e : Expr} {es : List Expr} {t : TA} {ma : En → Option (List D)} {p pos : Pos}
theorem de_call {P : Program} {w : World} {K : PySem.W.Frag} {mg : Str → Option Value} {base : Heap} {A : Around} (G : Cal P w K mg base x k n m) (hr : Room k A) (ha : DA X (e :: es) ma) (hA : X.A = A := by rfl) (hP : X.prog = P := by rfl) (hw : X.w = w := by rfl) (hK : X.K = K := by rfl) (hmg : X.mg = mg := by rfl) (hba : X.base = base := by rfl) (hg : Gl X x := by rfl) (hdb : (x == ("__debug__" : Str)) = false := by decide) (he : starEach (e :: es) X.env = (false, eval e X.env) :: starEach es X.env := by rfl) (hpl : (backTo pos (starEach es X.env)).any (·.1) = false := by rfl) :
    DE X (.Call (.Name x p) (e :: es) [] pos) (mCall n m ma) := by
  subst hA hP hw hK hmg hba
  obtain ⟨f, fd, ps, g1, g2, g3, g4⟩ := G.ex
  refine ⟨_, pe_call g2 hr hg g1 g3 g4 .nil pass0 ha.pa hdb he hpl, fun hid O B H σ E d re hm Q q => ?_⟩
  obtain ⟨ds, h1, hm⟩ := bind_some hm
  by_cases hl : ds.length = n
  · rw [if_pos hl] at hm
    refine ha.si hid O B H σ E ds re h1 _ fun vs H1 e1 r1 => ?_
    rw [List.append_nil]
    have re1 := re.grow e1
    refine ⟨orS hid O, ds, d, fun a z => ?_, r1, hl, hm, fun v H2 e2 r2 => q v H2 (e1.trans e2) r2⟩
    rcases z with z | z
    · exact (re1.hidd a z).mono re1.ex
    · exact (re1.own a z).2
  · rw [if_neg hl] at hm
    cases hm
theorem de_callT {P : Program} {w : World} {K : PySem.W.Frag} {mg : Str → Option Value} {base : Heap} {A : Around} (G : Cal P w K mg base x k n m) (hr : Room k A) (ha : DAT X (e :: es) ma) (hA : X.A = A := by rfl) (hP : X.prog = P := by rfl) (hw : X.w = w := by rfl) (hK : X.K = K := by rfl) (hmg : X.mg = mg := by rfl) (hba : X.base = base := by rfl) (hg : Gl X x := by rfl) (hdb : (x == ("__debug__" : Str)) = false := by decide) (he : starEach (e :: es) X.env = (false, eval e X.env) :: starEach es X.env := by rfl) (hpl : (backTo pos (starEach es X.env)).any (·.1) = false := by rfl) :
    DE X (.Call (.Name x p) (e :: es) [] pos) (mCallT n m ma) := by
  subst hA hP hw hK hmg hba
  obtain ⟨f, fd, ps, g1, g2, g3, g4⟩ := G.ex
  refine ⟨_, pe_call g2 hr hg g1 g3 g4 .nil pass0 ha.pa hdb he hpl, fun hid O B H σ E d re hm Q q => ?_⟩
  obtain ⟨ds, h1, hm⟩ := bind_some hm
  by_cases hl : ds.length = n
  · rw [if_pos hl] at hm
    obtain ⟨d', h2, hm⟩ := bind_some hm
    obtain ⟨h3, rfl⟩ := ite_some hm
    refine ha.si hid O B H σ E ds re h1 _ fun vs H1 e1 r1 => ?_
    rw [List.append_nil]
    refine ⟨noS, ds, d', fun a z => z.elim, r1.mono rem_no ds, hl, h2, fun v H2 e2 r2 => q v H2 (e1.trans e2) (nolst_rp (fun a z => ?_) _ h3 (r2.mono rem_ex _))⟩
    have re2 := (re.grow e1).grow e2
    rcases z with z | z
    · exact (re2.hidd a z).mono re2.ex
    · exact (re2.own a z).2
  · rw [if_neg hl] at hm
    cases hm
end
def callM (n N : Nat) (body : En → Option Out) : List D → Option D := fun ds => match body (ds.map Sl.fz ++ List.replicate (N - ds.length) Sl.un) with
  | some (.rt d) => some d
  | some (.rf ds) => some (.lst ds)
  | some (.nx _) => some .non
  | _ => none
def callF (n N : Nat) (body : En → Option Out) : List D → Option (List D) := fun ds => match body (ds.map Sl.fz ++ List.replicate (N - ds.length) Sl.un) with
  | some (.rf ds) => some ds
  | _ => none
def spF (K : PySem.W.Frag) (n : Nat) (m : List D → Option (List D)) : Sp := fun vs H Q _ => ∃ (hid : AS) (ds es : List D), (∀ a, hid a → IsM H a) ∧ RpL K (rem hid H) vs ds ∧ ds.length = n ∧ m ds = some es ∧
  ∀ p xs H', H p = none → Ex H H' → H' p = some (.lst xs) → RpL K (rem (orS hid (· = p)) H') xs es → Q (.ref p) H'
structure CalF (P : Program) (w : World) (K : PySem.W.Frag) (mg : Str → Option Value) (base : Heap) (x : Str) (k n : Nat) (m : List D → Option (List D)) : Prop where
  ex : ∃ (f : Addr) (fd : FuncData) (ps : List Str), mg x = some (.ref f) ∧ FnOk P w K mg base CX0 k f fd ps (spF K n m) ∧ PySem.W.keepIn K (.ref f) = true ∧ Binds K fd ps []
@[simp] def mCallF (n : Nat) (m : List D → Option (List D)) (a : En → Option (List D)) : En → Option (List D) := fun E => (a E).bind fun ds => if ds.length = n then m ds else none
theorem df_call {X : Cx} {x : Str} {k n : Nat} {m : List D → Option (List D)} {e : Expr} {es : List Expr} {ma : En → Option (List D)} {p pos : Pos} {P : Program} {w : World} {K : PySem.W.Frag} {mg : Str → Option Value} {base : Heap} {A : Around} (G : CalF P w K mg base x k n m) (hr : Room k A) (ha : DA X (e :: es) ma) (hA : X.A = A := by rfl) (hP : X.prog = P := by rfl) (hw : X.w = w := by rfl) (hK : X.K = K := by rfl) (hmg : X.mg = mg := by rfl) (hba : X.base = base := by rfl) (hg : Gl X x := by rfl) (hdb : (x == ("__debug__" : Str)) = false := by decide) (he : starEach (e :: es) X.env = (false, eval e X.env) :: starEach es X.env := by rfl) (hpl : (backTo pos (starEach es X.env)).any (·.1) = false := by rfl) :
    DF X (.Call (.Name x p) (e :: es) [] pos) (mCallF n m ma) := by
  subst hA hP hw hK hmg hba
  obtain ⟨f, fd, ps, g1, g2, g3, g4⟩ := G.ex
  refine ⟨_, pe_call g2 hr hg g1 g3 g4 .nil pass0 ha.pa hdb he hpl, fun hid O B H σ E d re hm Q q => ?_⟩
  obtain ⟨ds, h1, hm⟩ := bind_some hm
  by_cases hl : ds.length = n
  · rw [if_pos hl] at hm
    refine ha.si hid O B H σ E ds re h1 _ fun vs H1 e1 r1 => ?_
    rw [List.append_nil]
    have re1 := re.grow e1
    refine ⟨orS hid O, ds, d, fun a z => ?_, r1, hl, hm, fun p xs H2 hp e2 hx r2 => q p xs H2 (Evl.fresh_back e1 hp) (e1.trans e2) hx r2⟩
    rcases z with z | z
    · exact (re1.hidd a z).mono re1.ex
    · exact (re1.own a z).2
  · rw [if_neg hl] at hm
    cases hm
/-- a def of the text stands at x and its body does what m says -/
structure Stands (K : PySem.W.Frag) (mg : Str → Option Value) (x : Str) (st : Stmt) : Prop where
  ex : ∃ (f : Addr) (fd : FuncData), mg x = some (.ref f) ∧ FunD K x x (defArgs st) (defBody st) (defScope st) [] [] f fd
section
variable {P : Program} {w : World} {K : PySem.W.Frag} {mg : Str → Option Value} {base : Heap}
theorem fn_mk {x : Str} {st : Stmt} {N ps : List Str} {k n : Nat} {m : En → Option Out} {f : Addr} {fd : FuncData} (F : FunD K x x (defArgs st) (defBody st) (defScope st) [] [] f fd) (S : FnScope N ps (defScope st)) (hn : ps.length = n)
    (hbody : ∀ (cdv : Value) (A : Around) (outer : List Env) (s : Shared) (H : Hp) (E : XK), Room k (A.deeper (envOfC x (defScope st) s.heap.objs.size f cdv)) →
      DSs (cxOf CX0 P w K mg base N x (defScope st) f cdv A outer s H E).nox (defBody st) m) : FnOk P w K mg base CX0 (k + 1) f fd ps (spD K n (callM n N.length m)) := by
  refine F.ok S (fun vs H Q E h => ?_) (fun cdv A outer s H vs Q E hr h => ?_)
  · obtain ⟨hid, ds, d, _, h1, h2, _⟩ := h
    rw [h1.length, h2, hn]
  · obtain ⟨hid, ds, d, h0, h1, h2, h3, q⟩ := h
    have T := hbody cdv A outer s H E hr
    refine ⟨_, T.ps.nox, ?_⟩
    have r0 : RE K hid noS H H (start N vs) (ds.map Sl.fz ++ List.replicate (N.length - ds.length) Sl.un) := RE.start h0 h1
    unfold callM at h3
    split at h3
    · rename_i d' e
      cases h3
      exact T.si hid noS H H _ _ (.rt d) _ r0 e fun v H' ex rv => q v H' ex rv
    · rename_i es e
      cases h3
      exact T.si hid noS H H _ _ (.rf es) _ r0 e fun p xs H' hp ex hx rv => q _ H' ex (.lst (rem_some.mpr ⟨fun z => (by
        obtain ⟨o, z, _⟩ := h0 p z
        rw [hp] at z
        cases z), hx⟩) (rv.mono (rem_sub fun a z => .inl z) es))
    · rename_i E' e
      cases h3
      exact T.si hid noS H H _ _ (.nx E') _ r0 e fun O' σ' H' r' => q .non H' r'.ex .non
    · cases h3
theorem fnF_mk {x : Str} {st : Stmt} {N ps : List Str} {k n : Nat} {m : En → Option Out} {f : Addr} {fd : FuncData} (F : FunD K x x (defArgs st) (defBody st) (defScope st) [] [] f fd) (S : FnScope N ps (defScope st)) (hn : ps.length = n)
    (hbody : ∀ (cdv : Value) (A : Around) (outer : List Env) (s : Shared) (H : Hp) (E : XK), Room k (A.deeper (envOfC x (defScope st) s.heap.objs.size f cdv)) →
      DSs (cxOf CX0 P w K mg base N x (defScope st) f cdv A outer s H E).nox (defBody st) m) : FnOk P w K mg base CX0 (k + 1) f fd ps (spF K n (callF n N.length m)) := by
  refine F.ok S (fun vs H Q E h => ?_) (fun cdv A outer s H vs Q E hr h => ?_)
  · obtain ⟨hid, ds, d, _, h1, h2, _⟩ := h
    rw [h1.length, h2, hn]
  · obtain ⟨hid, ds, es, h0, h1, h2, h3, q⟩ := h
    have T := hbody cdv A outer s H E hr
    refine ⟨_, T.ps.nox, ?_⟩
    have r0 : RE K hid noS H H (start N vs) (ds.map Sl.fz ++ List.replicate (N.length - ds.length) Sl.un) := RE.start h0 h1
    unfold callF at h3
    split at h3
    · rename_i es' e
      cases h3
      exact T.si hid noS H H _ _ (.rf es) _ r0 e fun p xs H' hp ex hx rv => q p xs H' hp ex hx rv
    · cases h3
theorem calF_of {x : Str} {st : Stmt} {ps : List Str} {k n : Nat} {m : List D → Option (List D)} (F : Stands K mg x st)
    (hb : ∀ (kV doc pm : Value) (an : Option Addr) (cdv ct : Value) (us : List Value), us.length = ps.length → bindArgs (PySem.W.fnOf x x (defArgs st) (defBody st) (defScope st) .none kV doc pm an cdv ct) ⟨us, []⟩ = pure (ps.zip us))
    (h : ∀ {f : Addr} {fd : FuncData}, FunD K x x (defArgs st) (defBody st) (defScope st) [] [] f fd → FnOk P w K mg base CX0 k f fd ps (spF K n m)) : CalF P w K mg base x k n m := by
  obtain ⟨f, fd, g, F⟩ := F.ex
  obtain ⟨oc, od, dV, kV, doc, pm, an, cdv, ct, osl, e, lk, hcd, hd, hk⟩ := F.ex
  have F' := F
  refine ⟨f, fd, ps, g, h F, F.kp, ?_⟩
  subst e
  rcases hd with ⟨_, rfl⟩ | ⟨z, _⟩
  · exact .all (hb kV doc pm an cdv ct)
  · exact absurd rfl z
theorem fun_binds {x : Str} {st : Stmt} {ps : List Str} {f : Addr} {fd : FuncData} (F : FunD K x x (defArgs st) (defBody st) (defScope st) [] [] f fd)
    (hb : ∀ (kV doc pm : Value) (an : Option Addr) (cdv ct : Value) (us : List Value), us.length = ps.length → bindArgs (PySem.W.fnOf x x (defArgs st) (defBody st) (defScope st) .none kV doc pm an cdv ct) ⟨us, []⟩ = pure (ps.zip us)) : Binds K fd ps [] := by
  obtain ⟨oc, od, dV, kV, doc, pm, an, cdv, ct, osl, rfl, lk, hcd, hd, _⟩ := F.ex
  rcases hd with ⟨_, rfl⟩ | ⟨z, _⟩
  · exact .all (hb kV doc pm an cdv ct)
  · exact absurd rfl z
theorem cal_of {x : Str} {st : Stmt} {ps : List Str} {k n : Nat} {m : List D → Option D} (F : Stands K mg x st)
    (hb : ∀ (kV doc pm : Value) (an : Option Addr) (cdv ct : Value) (us : List Value), us.length = ps.length → bindArgs (PySem.W.fnOf x x (defArgs st) (defBody st) (defScope st) .none kV doc pm an cdv ct) ⟨us, []⟩ = pure (ps.zip us))
    (h : ∀ {f : Addr} {fd : FuncData}, FunD K x x (defArgs st) (defBody st) (defScope st) [] [] f fd → FnOk P w K mg base CX0 k f fd ps (spD K n m)) : Cal P w K mg base x k n m := by
  obtain ⟨f, fd, g, F⟩ := F.ex
  exact ⟨f, fd, ps, g, h F, F.kp, fun_binds F hb⟩
end

/-! ### lists changed in place -/
section
variable {X : Cx} {e e2 : Expr} {te te2 : TE} {m m2 : En → Option D} {x : Str} {p apos cpos pos : Pos}
theorem up_set {E : En} {i : Nat} {s t : Sl} : (E.set i s).set i t = E.set i t := List.set_set ..
@[simp] def mApp (i : Nat) (m : En → Option D) : En → Option Out := fun E => (m E).bind fun d => match E[i]? with
  | some (.ow ds) => if ds.length < 100000 then some (.nx (E.set i (.ow (ds ++ [d])))) else none
  | _ => none
theorem ow_of {E : En} {i : Nat} {d : D} {o : Out} {f : List D → Option Out} (h : (match E[i]? with
  | some (.ow ds) => f ds
  | _ => none) = some o) : ∃ ds, E[i]? = some (.ow ds) ∧ f ds = some o := by
  split at h
  · exact ⟨_, ‹_›, h⟩
  · cases h
theorem ds_app (i : Nat) (he : DE X e m) (hN : X.N[i]? = some x := by rfl) (hv : Vis X.env.scope x := by first | exact Or.inl rfl | exact Or.inr (Or.inl rfl) | exact Or.inr (Or.inr rfl)) (hd : (x == ("__debug__" : Str)) = false := by decide) (hcd : (x == ("__classdict__" : Str)) = false := by decide)
    (hbase : attributeBase (.Name x p) "append" X.env (eval (.Name x p) X.env) = eval (.Name x p) X.env := by rfl)
    (hfew : ((backTo cpos (starEach [e] X.env)).all (fun x => !x.1) && (backToKw cpos (keywordEach [] X.env)).all (fun x => x.1.isSome)
      && decide ([e].length + ([] : List Keyword).length + (if ([] : List Keyword).isEmpty then 0 else 1) < 30)) = true := by rfl)
    (hline : (apos.endLine == cpos.line) = true := by rfl) (hs : starEach [e] X.env = (false, eval e X.env) :: starEach [] X.env := by rfl) (hplain : (backTo cpos (starEach [] X.env)).any (·.1) = false := by rfl)
    (hsw : swapsWith (.Call (.Attribute (.Name x p) "append" apos) [e] [] cpos) none pos.line X.env = pure false := by rfl) :
    DS X (.Expr (.Call (.Attribute (.Name x p) "append" apos) [e] [] cpos) pos) (mApp i m) :=
  ⟨_, ps_expr (pe_bm PySem.F.plainAttrs_list PySem.F.slot_list_append PySem.F.type_list_append mt_append (pe_var hN hv hd hcd) (pa_cons he.pe pa_nil hs) hbase hfew hline hs hplain) hsw, fun hid O B H σ E o Dn r hm k => by
  obtain ⟨d, h1, hm⟩ := bind_some hm
  obtain ⟨ds, h2, hm⟩ := ow_of (d := d) hm
  obtain ⟨h3, rfl⟩ := ite_some hm
  obtain ⟨q, xs, g1, g2, g3, g4⟩ := r.ow i ds h2
  refine ⟨.ref q, g1, .inl ⟨rfl, xs, .inl (.inl g3)⟩, ?_⟩
  refine he.si hid O B H σ E d r h1 _ fun v H1 e1 r1 => ?_
  refine ⟨q, xs, v, rfl, rfl, e1 q _ g3, by rw [g4.length]; exact size_lt h3, ?_⟩
  exact k O σ _ ((r.grow e1).chg h2 g1 ((g4.mono (rem_mono e1) _).app (.one r1)))⟩
@[simp] def insD (ds : List D) (i : Int) (d : D) : Option (List D) := if ds.length < 100000 ∧ 0 ≤ i ∧ i < 100000 then some (ds.take i.toNat ++ [d] ++ ds.drop i.toNat) else none
@[simp] def mIns (i : Nat) (mk m : En → Option D) : En → Option Out := fun E => (mk E).bind fun k => (m E).bind fun d => match E[i]? with
  | some (.ow ds) => (match k with
    | .int j => (insD ds j d).map fun es => .nx (E.set i (.ow es))
    | _ => none)
  | _ => none
theorem ds_ins (i : Nat) (hk : DE X e2 m2) (he : DE X e m) (hN : X.N[i]? = some x := by rfl) (hv : Vis X.env.scope x := by first | exact Or.inl rfl | exact Or.inr (Or.inl rfl) | exact Or.inr (Or.inr rfl)) (hd : (x == ("__debug__" : Str)) = false := by decide) (hcd : (x == ("__classdict__" : Str)) = false := by decide)
    (hbase : attributeBase (.Name x p) "insert" X.env (eval (.Name x p) X.env) = eval (.Name x p) X.env := by rfl)
    (hfew : ((backTo cpos (starEach [e2, e] X.env)).all (fun x => !x.1) && (backToKw cpos (keywordEach [] X.env)).all (fun x => x.1.isSome)
      && decide ([e2, e].length + ([] : List Keyword).length + (if ([] : List Keyword).isEmpty then 0 else 1) < 30)) = true := by rfl)
    (hline : (apos.endLine == cpos.line) = true := by rfl) (hs : starEach [e2, e] X.env = (false, eval e2 X.env) :: starEach [e] X.env := by rfl) (hs2 : starEach [e] X.env = (false, eval e X.env) :: starEach [] X.env := by rfl) (hplain : (backTo cpos (starEach [e] X.env)).any (·.1) = false := by rfl)
    (hsw : swapsWith (.Call (.Attribute (.Name x p) "insert" apos) [e2, e] [] cpos) none pos.line X.env = pure false := by rfl) :
    DS X (.Expr (.Call (.Attribute (.Name x p) "insert" apos) [e2, e] [] cpos) pos) (mIns i m2 m) :=
  ⟨_, ps_expr (pe_bm PySem.F.plainAttrs_list PySem.F.slot_list_insert PySem.F.type_list_insert mt_insert (pe_var hN hv hd hcd) (pa_cons hk.pe (pa_cons he.pe pa_nil hs2) hs) hbase hfew hline hs hplain) hsw, fun hid O B H σ E o Dn r hm k => by
  obtain ⟨kk, h0, hm⟩ := bind_some hm
  obtain ⟨d, h1, hm⟩ := bind_some hm
  obtain ⟨ds, h2, hm⟩ := ow_of (d := d) hm
  obtain ⟨q, xs, g1, g2, g3, g4⟩ := r.ow i ds h2
  refine ⟨.ref q, g1, .inl ⟨rfl, xs, .inl (.inl g3)⟩, ?_⟩
  refine hk.si hid O B H σ E kk r h0 _ fun u H1 e1 r1 => ?_
  refine he.si hid O B H1 σ E d (r.grow e1) h1 _ fun v H2 e2 r2 => ?_
  split at hm
  · obtain ⟨es, h3, rfl⟩ := map_some hm
    unfold insD at h3
    obtain ⟨⟨h4, h5, h6⟩, rfl⟩ := ite_some h3
    cases r1
    have e12 := e1.trans e2
    have g4' := g4.mono (rem_mono e12) _
    refine ⟨q, xs, _, v, rfl, rfl, e12 q _ g3, by rw [g4.length]; exact size_lt h4, h5, by omega, ?_⟩
    exact k O σ _ ((r.grow e12).chg h2 g1 (((g4'.take _).app (.one r2)).app (g4'.drop _)))
  · cases hm⟩
/-- x[k] = e -/
@[simp] def mSub (i : Nat) (m mk : En → Option D) : En → Option Out := fun E => (m E).bind fun d => (mk E).bind fun k => match E[i]? with
  | some (.ow ds) => (match k with
    | .int j => (ixN ds.length j).map fun n => .nx (E.set i (.ow (ds.set n d)))
    | _ => none)
  | _ => none
theorem ds_sub (i : Nat) {spos : Pos} (he : DE X e m) (hk : DE X e2 m2) (hN : X.N[i]? = some x := by rfl) (hv : Vis X.env.scope x := by first | exact Or.inl rfl | exact Or.inr (Or.inl rfl) | exact Or.inr (Or.inr rfl)) (hd : (x == ("__debug__" : Str)) = false := by decide) (hcd : (x == ("__classdict__" : Str)) = false := by decide)
    (ha : ∀ v, assign (.Subscript (.Name x p) e2 spos) X.env v = (do
      let ov ← holding [v] (eval (.Name x p) X.env)
      let iv ← holding [v, ov] (eval e2 X.env)
      standAt spos
      holding [v, ov, iv] (setItem ov iv v)
      release [v, ov, iv] []) := by intro _; rfl)
    (hs : swapsWithSole [.Subscript (.Name x p) e2 spos] e pos.line X.env = pure false := by rfl) (hw : swappedStores [.Subscript (.Name x p) e2 spos] e X.env = pure none := by rfl)
    (h1 : (assignEach [.Subscript (.Name x p) e2 spos] X.env).map (·.2) = [assign (.Subscript (.Name x p) e2 spos) X.env] := by rfl) :
    DS X (.Assign [.Subscript (.Name x p) e2 spos] e pos) (mSub i m m2) :=
  ⟨_, ps_asg he.pe (pg_sub (pe_var hN hv hd hcd) hk.pe set_list ha) hs hw h1, fun hid O B H σ E o Dn r hm k => by
  obtain ⟨d, h0, hm⟩ := bind_some hm
  obtain ⟨kk, h1, hm⟩ := bind_some hm
  obtain ⟨ds, h2, hm⟩ := ow_of (d := d) hm
  obtain ⟨q, xs, g1, g2, g3, g4⟩ := r.ow i ds h2
  refine he.si hid O B H σ E d r h0 _ fun v H1 e1 r1 => ?_
  refine ⟨.ref q, g1, ?_⟩
  refine hk.si hid O B H1 σ E kk (r.grow e1) h1 _ fun u H2 e2 r2 => ?_
  split at hm
  · obtain ⟨n, h3, rfl⟩ := map_some hm
    cases r2
    have e12 := e1.trans e2
    refine ⟨q, xs, _, n, rfl, rfl, e12 q _ g3, by rw [g4.length]; exact h3, ?_⟩
    exact k O σ _ ((r.grow e12).chg h2 g1 ((g4.mono (rem_mono e12) _).set (r1.mono (rem_mono e2) _) n))
  · cases hm⟩
/-- x = [.. for ..] -/
theorem ds_setLc (i : Nat) {y : Str} {py : Pos} {elt tg iter : Expr} {ifs : List Expr} {scope : Scope} {own : List (Str × Nat)} {spos : Pos} {js : List Nat} {mi : En → Option (List D)} {mg : En → D → Option En} {mt : En → Option Bool} {me : En → Option D}
    (hc : X.calm = true) (hN : X.N.Nodup) (hi : DIT X tg iter mi) (ok : BlkOk X.N X.env.scope scope own) (hjs : ∀ j ∈ js, j ∈ own.map (·.2))
    (hg : ∀ (s : Shared) (H : Hp) (C : Addr) (cl : List (Str × Addr)) (fp : List Addr), DG (X.blk s H scope (compEnvC scope cl C X.env) fp) tg js mg) (ht : ∀ (s : Shared) (H : Hp) (C : Addr) (cl : List (Str × Addr)) (fp : List Addr), DTs (X.blk s H scope (compEnvC scope cl C X.env) fp) ifs mt)
    (he : ∀ (s : Shared) (H : Hp) (C : Addr) (cl : List (Str × Addr)) (fp : List Addr), DE (X.blk s H scope (compEnvC scope cl C X.env) fp) elt me)
    (hsw : swapsWith (.ListComp elt [⟨tg, iter, ifs, 0⟩] scope pos) (some (.Name y py)) spos.line X.env = pure true) (hy : X.N[i]? = some y := by rfl) (hyl : X.env.scope.names.lookup y = some .local := by rfl) (hs : ∀ x, foldedSetIterable iter X.env x = pure x := by intro _; rfl) :
    DS X (.Assign [.Name y py] (.ListComp elt [⟨tg, iter, ifs, 0⟩] scope pos) spos) (mSetO i (mComp (own.map (·.2)) mi mg mt me)) :=
  ⟨_, ps_setLc (wi := tITq X.K mi) (g := tGq X.K js mg) (tt := tBq X.K mt) (te := tE X.K me) hc hN hy hyl hsw hi.pi ok (fun s H C cl fp => (hg s H C cl fp).pg) (fun s H C cl fp => (ht s H C cl fp).pt) (fun s H C cl fp => (he s H C cl fp).pe) hs,
    ss_setO i (sf_lc hi.si (hg X.s_0 X.H_0 0 [] []).si hjs (ht X.s_0 X.H_0 0 [] []).si (he X.s_0 X.H_0 0 [] []).si)⟩
/-- .. x not changed later -/
theorem ss_setF {K : PySem.W.Frag} (i : Nat) {te : TE} {m : En → Option (List D)} (h : SF K te m) : SS K (tAsg te (gName i)) (mSet i (mList m)) := fun hid O B H σ E o Dn r hm k => by
  obtain ⟨d, h1, rfl⟩ := map_some hm
  obtain ⟨ds, h2, rfl⟩ := map_some h1
  exact h hid O B H σ E ds r h2 _ fun p xs H1 hp e1 hx r1 => k _ _ H1 ((r.grow e1).put i (.lst (vis_new (r.fresh hp) hx) (r1.mono (rem_sub fun a z => .inl z) ds)))
theorem ds_setLcF (i : Nat) {y : Str} {py : Pos} {elt tg iter : Expr} {ifs : List Expr} {scope : Scope} {own : List (Str × Nat)} {pos spos : Pos} {js : List Nat} {mi : En → Option (List D)} {mg : En → D → Option En} {mt : En → Option Bool} {me : En → Option D}
    (hc : X.calm = true) (hN : X.N.Nodup) (hi : DIT X tg iter mi) (ok : BlkOk X.N X.env.scope scope own) (hjs : ∀ j ∈ js, j ∈ own.map (·.2))
    (hg : ∀ (s : Shared) (H : Hp) (C : Addr) (cl : List (Str × Addr)) (fp : List Addr), DG (X.blk s H scope (compEnvC scope cl C X.env) fp) tg js mg) (ht : ∀ (s : Shared) (H : Hp) (C : Addr) (cl : List (Str × Addr)) (fp : List Addr), DTs (X.blk s H scope (compEnvC scope cl C X.env) fp) ifs mt)
    (he : ∀ (s : Shared) (H : Hp) (C : Addr) (cl : List (Str × Addr)) (fp : List Addr), DE (X.blk s H scope (compEnvC scope cl C X.env) fp) elt me)
    (hsw : swapsWith (.ListComp elt [⟨tg, iter, ifs, 0⟩] scope pos) (some (.Name y py)) spos.line X.env = pure true) (hy : X.N[i]? = some y := by rfl) (hyl : X.env.scope.names.lookup y = some .local := by rfl) (hs : ∀ x, foldedSetIterable iter X.env x = pure x := by intro _; rfl) :
    DS X (.Assign [.Name y py] (.ListComp elt [⟨tg, iter, ifs, 0⟩] scope pos) spos) (mSet i (mList (mComp (own.map (·.2)) mi mg mt me))) :=
  ⟨_, ps_setLc (wi := tITq X.K mi) (g := tGq X.K js mg) (tt := tBq X.K mt) (te := tE X.K me) hc hN hy hyl hsw hi.pi ok (fun s H C cl fp => (hg s H C cl fp).pg) (fun s H C cl fp => (ht s H C cl fp).pt) (fun s H C cl fp => (he s H C cl fp).pe) hs,
    ss_setF i (sf_lc hi.si (hg X.s_0 X.H_0 0 [] []).si hjs (ht X.s_0 X.H_0 0 [] []).si (he X.s_0 X.H_0 0 [] []).si)⟩
end
end Sx

set_option Elab.async false
set_option linter.all false
set_option maxRecDepth 100000
set_option maxHeartbeats 1000000
namespace Sx
open PySem PySem.Spec PyProof.Rows L2
open Evl (Ex)

/-! ### enumerate -/
def enumD : Nat → List D → List D
  | _, [] => []
  | n, d :: ds => .tup [.int (n : Int), d] :: enumD (n + 1) ds
theorem enumD_len : ∀ (ds : List D) (n : Nat), (enumD n ds).length = ds.length
  | [], _ => rfl
  | _ :: ds, n => congrArg Nat.succ (enumD_len ds (n + 1))
theorem enumD_get : ∀ (ds : List D) (n i : Nat), (enumD n ds)[i]? = (ds[i]?).map fun d => .tup [.int ((n + i : Nat) : Int), d]
  | [], _, i => by simp [enumD]
  | d :: ds, n, 0 => by simp [enumD]
  | d :: ds, n, i + 1 => by
    have := enumD_get ds (n + 1) i
    simp only [enumD, List.getElem?_cons_succ]
    rw [this]
    have e : n + 1 + i = n + (i + 1) := by omega
    rw [e]
theorem Yd.enum {K : PySem.W.Frag} {W : AS} {H2 : Hp} {xs : List V} {ds : List D} (h : RpL K (rem W H2) xs ds) : Yd K W H2 (enumD 0 ds) (YPair (fun i => some (.int (i : Nat))) (fun i => xs[i]?)) := fun i H1 x H1' W' d y hd e hn => by
  obtain ⟨T, a, b, rfl, hT, rfl, ha, hb⟩ := y
  rw [enumD_get] at hd
  obtain ⟨di, hdi, rfl⟩ := map_some hd
  obtain ⟨v, h1, h2⟩ := h.get hdi
  have hb' : xs[i]? = some b := hb
  rw [h1] at hb'
  cases hb'
  have ha' : some (V.int (i : Nat)) = some a := ha
  cases ha'
  have ex : Ex H1 (upd H1 T (.tup [.int (i : Nat), b])) := Ex.new hT
  refine ⟨ex, .tup (Evl.st_of (rem_some.mpr ⟨hn T hT, upd_same⟩)) (.cons ?_ (.cons ((h2.mono e di).mono (rem_mono ex) di) .nil))⟩
  rw [Nat.zero_add]
  exact .int _
section
variable {X : Cx} {e : Expr} {m : En → Option D} {p pos tpos : Pos} {elts : List Expr} {kk : Nat}
@[simp] def mEnum (m : En → Option D) : En → Option (List D) := fun E => ((m E).bind lstOf).map (enumD 0)
theorem di_enum (hm : X.mg "enumerate" = none) (h : DE X e m) (hg : Gl X "enumerate" := by rfl) (hs1 : starEach [e] X.env = (false, eval e X.env) :: starEach [] X.env := by rfl) (hs : starEach [e] X.env = [(false, eval e X.env)] := by rfl) :
    DI X (.Tuple elts kk tpos) (.Call (.Name "enumerate" p) [e] [] pos) (mEnum m) := ⟨_, pi_enum hg hm (pa_cons h.pe pa_nil hs1) hs, fun hid O B H σ E ds r hm R k => by
  obtain ⟨es, h1, rfl⟩ := map_some hm
  obtain ⟨x, h2, h3⟩ := bind_some h1
  refine h.si hid O B H σ E x r h2 _ fun v H1 e1 r1 => ?_
  rcases lstOf_some h3 with rfl | ⟨ns, rfl, rfl⟩
  · cases r1 with
    | @lst a xs _ g1 g2 =>
      refine ⟨a, xs, rfl, .inl (.inl (rem_some.mp g1).2), ?_⟩
      have w := walk_enum (K := X.K) (a := a) (xs := xs)
      rw [g2.length, ← enumD_len es 0] at w
      exact k _ H1 _ _ e1 w (fun H' z => .inl (.inl (z a _ g1))) (Yd.enum g2)
  · cases r1 with
    | @scr a _ g1 =>
      refine ⟨a, _, rfl, Evl.ex_l rem_ex g1, ?_⟩
      have w := walk_enum (K := X.K) (a := a) (xs := ns.map V.int)
      rw [List.length_map, ← List.length_map (f := D.int), ← enumD_len (ns.map D.int) 0] at w
      exact k _ H1 _ _ e1 w (fun H' z => Evl.ex_l z g1) (Yd.enum (RpL.ints ns))⟩
theorem dit_enum (hm : X.mg "enumerate" = none) (h : DT X e m) (hg : Gl X "enumerate" := by rfl) (hs1 : starEach [e] X.env = (false, eval e X.env) :: starEach [] X.env := by rfl) (hs : starEach [e] X.env = [(false, eval e X.env)] := by rfl) :
    DIT X (.Tuple elts kk tpos) (.Call (.Name "enumerate" p) [e] [] pos) (mEnum m) := ⟨_, pi_enum hg hm (pa_cons h.pe pa_nil hs1) hs, fun hid O B H σ E ds r hm R k => by
  obtain ⟨es, h1, rfl⟩ := map_some hm
  obtain ⟨x, h2, h3⟩ := bind_some h1
  refine h.si hid O B H σ E x r h2 _ fun v H1 e1 r1 => ?_
  rcases lstOf_some h3 with rfl | ⟨ns, rfl, rfl⟩
  · obtain ⟨a, xs, rfl, g1, g2⟩ := r1.lst
    refine ⟨a, xs, rfl, .inl (.inl g1), ?_⟩
    have w := walk_enum (K := X.K) (a := a) (xs := xs)
    rw [g2.length, ← enumD_len es 0] at w
    exact k _ H1 _ _ e1 w (fun H' z => .inl (.inl (z a _ g1))) (Yd.enum g2)
  · obtain ⟨a, rfl, g1⟩ := r1.scr
    refine ⟨a, _, rfl, g1, ?_⟩
    have w := walk_enum (K := X.K) (a := a) (xs := ns.map V.int)
    rw [List.length_map, ← List.length_map (f := D.int), ← enumD_len (ns.map D.int) 0] at w
    exact k _ H1 _ _ e1 w (fun H' z => Evl.ex_l z g1) (Yd.enum (RpL.ints ns))⟩
end

/-! ### flat items -/
def allStrs : List D → Option (List Str)
  | [] => some []
  | .str z :: ds => (allStrs ds).map (z :: ·)
  | _ :: _ => none
theorem allStrs_some : ∀ {ds : List D} {ns : List Str}, allStrs ds = some ns → ds = ns.map .str
  | [], _, h => by cases h; rfl
  | d :: ds, ns, h => by
    cases d with
    | str z =>
      obtain ⟨zs, h1, rfl⟩ := map_some (show (allStrs ds).map (z :: ·) = some ns from h)
      rw [allStrs_some h1]
      rfl
    | _ => cases h
theorem allStrs_map : ∀ (ns : List Str), allStrs (ns.map .str) = some ns
  | [] => rfl
  | n :: ns => by
    show (allStrs (ns.map .str)).map (n :: ·) = _
    rw [allStrs_map ns]
    rfl
def allBls : List D → Option (List Bool)
  | [] => some []
  | .bl z :: ds => (allBls ds).map (z :: ·)
  | _ :: _ => none
theorem allBls_some : ∀ {ds : List D} {ns : List Bool}, allBls ds = some ns → ds = ns.map .bl
  | [], _, h => by cases h; rfl
  | d :: ds, ns, h => by
    cases d with
    | bl z =>
      obtain ⟨zs, h1, rfl⟩ := map_some (show (allBls ds).map (z :: ·) = some ns from h)
      rw [allBls_some h1]
      rfl
    | _ => cases h
theorem allBls_map : ∀ (ns : List Bool), allBls (ns.map .bl) = some ns
  | [] => rfl
  | n :: ns => by
    show (allBls (ns.map .bl)).map (n :: ·) = _
    rw [allBls_map ns]
    rfl
section
variable {K : PySem.W.Frag} {H : Hp}
theorem RpL.strs_of : ∀ {ns : List Str} {vs : List V}, RpL K H vs (ns.map D.str) → vs = ns.map V.str
  | [], _, h => by cases h; rfl
  | n :: ns, _, h => by
    cases h with
    | cons h1 h2 =>
      cases h1
      rw [RpL.strs_of h2]
      rfl
theorem RpL.bls_of : ∀ {ns : List Bool} {vs : List V}, RpL K H vs (ns.map D.bl) → vs = ns.map V.bl
  | [], _, h => by cases h; rfl
  | n :: ns, _, h => by
    cases h with
    | cons h1 h2 =>
      cases h1
      rw [RpL.bls_of h2]
      rfl
end
theorem Tv.seq2 {K : PySem.W.Frag} {hid O : AS} {H : Hp} {v : V} {x : D} {ds : List D} (rv : Tv K hid O H v x) (h : seqOf x = some ds) : ∃ p xs, v = .ref p ∧ (SqL K H p xs ∨ SqT K H p xs) ∧ ∃ W, RpL K (rem W H) xs ds := by
  unfold seqOf at h
  split at h
  · cases h
    obtain ⟨p, xs, rfl, h1, h2⟩ := rv.seq
    exact ⟨p, xs, rfl, .inl h1, _, h2⟩
  · cases h
    obtain ⟨p, xs, rfl, h1, h2⟩ := rv.tup
    exact ⟨p, xs, rfl, .inr (Evl.ex_t rem_ex h1), _, h2⟩
  · cases h
    obtain ⟨p, rfl, h1⟩ := rv.scr
    exact ⟨p, _, rfl, .inl h1, noS, RpL.ints _⟩
  · cases h
@[simp] def inD : D → D → Option D
  | .str z, c => ((seqOf c).bind allStrs).map fun ss => .bl (ss.contains z)
  | .int z, c => ((seqOf c).bind allInts).map fun ss => .bl (ss.contains z)
  | _, _ => none
@[simp] def notInD (x c : D) : Option D := (inD x c).map fun d => match d with
  | .bl b => .bl (!b)
  | d => d
theorem inV_str (z : Str) : ∀ ss : List Str, inV (.str z) (ss.map V.str) = ss.contains z
  | [] => rfl
  | s :: ss => by
    have ih := inV_str z ss
    unfold inV at ih ⊢
    rw [List.map_cons, List.any_cons, ih, List.contains_cons]
    congr 1
    show (s == z) = (z == s)
    exact Bool.beq_comm
theorem inV_int (z : Int) : ∀ ss : List Int, inV (.int z) (ss.map V.int) = ss.contains z
  | [] => rfl
  | s :: ss => by
    have ih := inV_int z ss
    unfold inV at ih ⊢
    rw [List.map_cons, List.any_cons, ih, List.contains_cons]
    congr 1
    show (s == z) = (z == s)
    exact Bool.beq_comm
theorem flat_strs (ss : List Str) : (ss.map V.str).all flatV = true := by
  rw [List.all_map, List.all_eq_true]
  intro x _
  rfl
theorem flat_ints (ss : List Int) : (ss.map V.int).all flatV = true := by
  rw [List.all_map, List.all_eq_true]
  intro x _
  rfl
theorem in_facts {K : PySem.W.Frag} {hid O : AS} {H : Hp} {x y : V} {a c d : D} (ra : Tv K hid O H x a) (rc : Tv K hid O H y c) (h : inD a c = some d) :
    ∃ p xs b, y = .ref p ∧ (SqL K H p xs ∨ SqT K H p xs) ∧ flatV x = true ∧ xs.all flatV = true ∧ inV x xs = b ∧ d = .bl b := by
  unfold inD at h
  split at h
  · obtain ⟨ss, h1, rfl⟩ := map_some h
    obtain ⟨ds, h2, h3⟩ := bind_some h1
    obtain ⟨p, xs, rfl, h4, W, h5⟩ := rc.seq2 h2
    rw [allStrs_some h3] at h5
    rw [RpL.strs_of h5] at h4
    obtain rfl := ra.str
    exact ⟨p, _, _, rfl, h4, rfl, flat_strs ss, inV_str _ ss, rfl⟩
  · obtain ⟨ss, h1, rfl⟩ := map_some h
    obtain ⟨ds, h2, h3⟩ := bind_some h1
    obtain ⟨p, xs, rfl, h4, W, h5⟩ := rc.seq2 h2
    rw [allInts_some h3] at h5
    rw [RpL.ints_of h5] at h4
    obtain rfl := ra.int
    exact ⟨p, _, _, rfl, h4, rfl, flat_ints ss, inV_int _ ss, rfl⟩
  · cases h
theorem od_in {K : PySem.W.Frag} : OD K (rIn K false) inD := fun hid O H x y a b d al ra rb hm Q q => by
  obtain ⟨p, xs, k, rfl, h1, h2, h3, h4, rfl⟩ := in_facts ra rb hm
  refine ⟨p, xs, rfl, h1, h2, h3, ?_⟩
  rw [if_neg Bool.false_ne_true, h4]
  exact q _ H (Ex.refl H) (.bl _)
theorem od_notIn {K : PySem.W.Frag} : OD K (rIn K true) notInD := fun hid O H x y a b d al ra rb hm Q q => by
  obtain ⟨d', h0, rfl⟩ := map_some hm
  obtain ⟨p, xs, k, rfl, h1, h2, h3, h4, rfl⟩ := in_facts ra rb h0
  refine ⟨p, xs, rfl, h1, h2, h3, ?_⟩
  rw [if_pos rfl, h4]
  exact q _ H (Ex.refl H) (.bl _)
section
variable {X : Cx} {a b : Expr} {ta tb : TE} {ma mb : En → Option D} {p pos : Pos}
/-- any(x) of a list of truth values -/
@[simp] def anyD (d : D) : Option D := ((seqOf d).bind allBls).map fun bs => .bl (bs.any id)
@[simp] def lstOnly : D → Option (List D)
  | .lst ds => some ds
  | _ => none
@[simp] def anyLD (d : D) : Option D := ((lstOnly d).bind allBls).map fun bs => .bl (bs.any id)
@[simp] def allLD (d : D) : Option D := ((lstOnly d).bind allBls).map fun bs => .bl (bs.all id)
theorem lstOnly_some {d : D} {ds : List D} (h : lstOnly d = some ds) : d = .lst ds := by
  unfold lstOnly at h
  split at h
  · cases h
    rfl
  · cases h
theorem bls_tv {K : PySem.W.Frag} {hid O : AS} {H : Hp} {v : V} {x : D} {bs : List Bool} (rv : Tv K hid O H v x) (h : (lstOnly x).bind allBls = some bs) : ∃ p, v = .ref p ∧ SqL K H p (bs.map V.bl) := by
  obtain ⟨ds, h1, h2⟩ := bind_some h
  obtain rfl := lstOnly_some h1
  obtain ⟨p, xs, rfl, h3, h4⟩ := rv.seq
  rw [allBls_some h2] at h4
  rw [RpL.bls_of h4] at h3
  exact ⟨p, rfl, h3⟩
theorem de_any (hc : X.calm = true) (hm : X.mg "any" = none) (ha : DT X a ma) (hg : Gl X "any" := by rfl) (hs : starEach [a] X.env = (false, eval a X.env) :: starEach [] X.env := by rfl) (hpl : (backTo pos (starEach [] X.env)).any (·.1) = false := by rfl) :
    DE X (.Call (.Name "any" p) [a] [] pos) (mUn anyLD ma) := ⟨_, pe_callB (cr_any hc) hg hm (by decide +kernel) (pa_cons ha.pe pa_nil hs) (by decide) (by decide) hs hpl, se_call1 ha.si fun hid O H v x d al rv hx Q q => by
  obtain ⟨bs, h1, rfl⟩ := map_some hx
  obtain ⟨p, rfl, h2⟩ := bls_tv rv h1
  exact ⟨p, bs, rfl, h2, q _ H (Ex.refl H) (.bl _)⟩⟩
theorem de_all (hc : X.calm = true) (hm : X.mg "all" = none) (ha : DT X a ma) (hg : Gl X "all" := by rfl) (hs : starEach [a] X.env = (false, eval a X.env) :: starEach [] X.env := by rfl) (hpl : (backTo pos (starEach [] X.env)).any (·.1) = false := by rfl) :
    DE X (.Call (.Name "all" p) [a] [] pos) (mUn allLD ma) := ⟨_, pe_callB (cr_all hc) hg hm (by decide +kernel) (pa_cons ha.pe pa_nil hs) (by decide) (by decide) hs hpl, se_call1 ha.si fun hid O H v x d al rv hx Q q => by
  obtain ⟨bs, h1, rfl⟩ := map_some hx
  obtain ⟨p, rfl, h2⟩ := bls_tv rv h1
  exact ⟨p, bs, rfl, h2, q _ H (Ex.refl H) (.bl _)⟩⟩
/-- the least, the greatest of a list of ints -/
def minL : List Int → Option Int
  | [] => none
  | [a] => some a
  | a :: as => (minL as).map fun b => if a ≤ b then a else b
def maxL : List Int → Option Int
  | [] => none
  | [a] => some a
  | a :: as => (maxL as).map fun b => if b ≤ a then a else b
theorem minL_ok : ∀ {ns : List Int} {r : Int}, minL ns = some r → r ∈ ns ∧ ∀ y ∈ ns, r ≤ y
  | [a], r, h => by
    cases h
    simp
  | a :: b :: as, r, h => by
    obtain ⟨c, h1, rfl⟩ := map_some (show (minL (b :: as)).map (fun b => if a ≤ b then a else b) = some r from h)
    obtain ⟨h2, h3⟩ := minL_ok h1
    by_cases h4 : a ≤ c
    · rw [if_pos h4]
      refine ⟨List.mem_cons_self .., fun y hy => ?_⟩
      rcases List.mem_cons.mp hy with rfl | hy
      · omega
      · have := h3 y hy
        omega
    · rw [if_neg h4]
      refine ⟨List.mem_cons_of_mem _ h2, fun y hy => ?_⟩
      rcases List.mem_cons.mp hy with rfl | hy
      · omega
      · exact h3 y hy
theorem maxL_ok : ∀ {ns : List Int} {r : Int}, maxL ns = some r → r ∈ ns ∧ ∀ y ∈ ns, y ≤ r
  | [a], r, h => by
    cases h
    simp
  | a :: b :: as, r, h => by
    obtain ⟨c, h1, rfl⟩ := map_some (show (maxL (b :: as)).map (fun b => if b ≤ a then a else b) = some r from h)
    obtain ⟨h2, h3⟩ := maxL_ok h1
    by_cases h4 : c ≤ a
    · rw [if_pos h4]
      refine ⟨List.mem_cons_self .., fun y hy => ?_⟩
      rcases List.mem_cons.mp hy with rfl | hy
      · omega
      · have := h3 y hy
        omega
    · rw [if_neg h4]
      refine ⟨List.mem_cons_of_mem _ h2, fun y hy => ?_⟩
      rcases List.mem_cons.mp hy with rfl | hy
      · omega
      · exact h3 y hy
theorem minL_def : ∀ {ns : List Int}, ns ≠ [] → ∃ r, minL ns = some r
  | [a], _ => ⟨a, rfl⟩
  | a :: b :: as, _ => by
    obtain ⟨r, h⟩ := minL_def (ns := b :: as) (by simp)
    exact ⟨_, by show (minL (b :: as)).map _ = _; rw [h]; rfl⟩
theorem maxL_def : ∀ {ns : List Int}, ns ≠ [] → ∃ r, maxL ns = some r
  | [a], _ => ⟨a, rfl⟩
  | a :: b :: as, _ => by
    obtain ⟨r, h⟩ := maxL_def (ns := b :: as) (by simp)
    exact ⟨_, by show (maxL (b :: as)).map _ = _; rw [h]; rfl⟩
@[simp] def min1D (d : D) : Option D := ((intsOf d).bind minL).map .int
@[simp] def max1D (d : D) : Option D := ((intsOf d).bind maxL).map .int
theorem de_min1 (hc : X.calm = true) (hm : X.mg "min" = none) (ha : DT X a ma) (hg : Gl X "min" := by rfl) (hs : starEach [a] X.env = (false, eval a X.env) :: starEach [] X.env := by rfl) (hpl : (backTo pos (starEach [] X.env)).any (·.1) = false := by rfl) :
    DE X (.Call (.Name "min" p) [a] [] pos) (mUn min1D ma) := ⟨_, pe_callB (cr_min hc) hg hm (by decide +kernel) (pa_cons ha.pe pa_nil hs) (by decide) (by decide) hs hpl, se_call1 ha.si fun hid O H v x d al rv hx Q q => by
  obtain ⟨r, h1, rfl⟩ := map_some hx
  obtain ⟨ns, h2, h3⟩ := bind_some h1
  obtain ⟨p, rfl, h4⟩ := ints_tv rv h2
  obtain ⟨h5, h6⟩ := minL_ok h3
  refine ⟨p, ns, rfl, h4, List.length_pos_of_mem h5, fun m hm1 hm2 => ?_⟩
  have : m = r := by
    have := hm2 r h5
    have := h6 m hm1
    omega
  subst this
  exact q _ H (Ex.refl H) (.int _)⟩
theorem de_max1 (hc : X.calm = true) (hm : X.mg "max" = none) (ha : DT X a ma) (hg : Gl X "max" := by rfl) (hs : starEach [a] X.env = (false, eval a X.env) :: starEach [] X.env := by rfl) (hpl : (backTo pos (starEach [] X.env)).any (·.1) = false := by rfl) :
    DE X (.Call (.Name "max" p) [a] [] pos) (mUn max1D ma) := ⟨_, pe_callB (cr_max hc) hg hm (by decide +kernel) (pa_cons ha.pe pa_nil hs) (by decide) (by decide) hs hpl, se_call1 ha.si fun hid O H v x d al rv hx Q q => by
  obtain ⟨r, h1, rfl⟩ := map_some hx
  obtain ⟨ns, h2, h3⟩ := bind_some h1
  obtain ⟨p, rfl, h4⟩ := ints_tv rv h2
  obtain ⟨h5, h6⟩ := maxL_ok h3
  refine ⟨p, ns, rfl, h4, List.length_pos_of_mem h5, fun m hm1 hm2 => ?_⟩
  have : m = r := by
    have := hm2 r h5
    have := h6 m hm1
    omega
  subst this
  exact q _ H (Ex.refl H) (.int _)⟩
end
end Sx

set_option Elab.async false
set_option linter.all false
set_option maxRecDepth 100000
set_option maxHeartbeats 1000000
namespace Sx
open PySem PySem.Spec PyProof.Rows L2
open Evl (Ex)

/-! ### xs.count(text) -/
def eqs (k : Str) (v : Value) : Bool := match v with
  | .str n _ => n == k
  | _ => false
theorem eqs_count {k : Str} : ∀ {ss : List Str} {us : List Value}, Vals (ss.map V.str) us → us.countP (eqs k) = ss.count k
  | [], _, h => by cases h; rfl
  | s :: ss, _, h => by
    cases h with
    | cons h1 h2 =>
      obtain ⟨t, rfl⟩ := h1
      rw [List.countP_cons, List.count_cons, eqs_count h2] <;> rfl
theorem eqs_at {A : Around} {sh : Shared} {k : Str} {t : Tok} : ∀ {ss : List Str} {us : List Value}, Vals (ss.map V.str) us → ∀ y ∈ us, SeqAt.EqAt A sh y (.str k t) (eqs k y)
  | [], _, h => fun y hy => by cases h; cases hy
  | s :: ss, _, h => fun y hy => by
    cases h with
    | cons h1 h2 =>
      obtain ⟨u, rfl⟩ := h1
      rcases List.mem_cons.mp hy with rfl | hy
      · exact SeqAt.EqAt.str_str s u k t
      · exact eqs_at h2 y hy
def rCntS (K : PySem.W.Frag) : V → List V → Hp → VK → Prop := fun x xs H Q => ∃ (p : Addr) (ss : List Str) (k : Str), x = .ref p ∧ xs = [.str k] ∧ SqL K H p (ss.map V.str) ∧ Q (.int (ss.count k : Nat)) H
theorem mt_lcountS {X : Cx} : MtR X "list.count" (rCntS X.K) := by
  intro pins s σ H x xs v us Q I rx rxs h
  obtain ⟨p, ss, k, rfl, rfl, hs, q⟩ := h
  cases rx
  obtain ⟨u, rfl, ru⟩ := rxs.one
  obtain ⟨t, rfl⟩ := ru
  obtain ⟨its, rv, ⟨⟨cls, dd, data, sl⟩, n, ho, hc, hdn, hd⟩, hlen⟩ := I.list hs
  simp only at hc hd
  subst hc hd
  refine call_meets PySem.F.slot_list_count ⟨_, ho, rfl⟩ PySem.F.entry_list_count (PySem.F.args_list_count_2 _ _)
    (SeqAt.list_countAt p its.toArray n dd sl (.str k t) (eqs k)) ⟨ho, fun y hy => eqs_at rv y (by simpa using hy), ?_⟩
  have ec : its.toArray.toList.countP (eqs k) = ss.count k := eqs_count rv
  refine ⟨.int (ss.count k : Nat), H, I.tok _, ⟨s.toks, ?_⟩, q⟩
  show Value.int ((its.toArray.toList.countP (eqs k) : Nat) : Int) s.toks = Value.int ((ss.count k : Nat) : Int) s.toks
  rw [ec]
section
variable {X : Cx} {e e2 : Expr} {te te2 : TE} {m m2 : En → Option D} {x : Str} {p apos cpos pos : Pos}
@[simp] def cntD : D → D → Option D
  | c, .str z => ((lstOnly c).bind allStrs).map fun ss => .int ((ss.count z : Nat) : Int)
  | _, _ => none
theorem de_cntS (ha : DT X e m) (hb : DT X e2 m2)
    (hbase : attributeBase e "count" X.env (eval e X.env) = eval e X.env := by rfl)
    (hfew : ((backTo cpos (starEach [e2] X.env)).all (fun x => !x.1) && (backToKw cpos (keywordEach [] X.env)).all (fun x => x.1.isSome)
      && decide ([e2].length + ([] : List Keyword).length + (if ([] : List Keyword).isEmpty then 0 else 1) < 30)) = true := by rfl)
    (hline : (apos.endLine == cpos.line) = true := by rfl) (hs : starEach [e2] X.env = (false, eval e2 X.env) :: starEach [] X.env := by rfl) (hplain : (backTo cpos (starEach [] X.env)).any (·.1) = false := by rfl) :
    DE X (.Call (.Attribute e "count" apos) [e2] [] cpos) (mBin cntD m m2) :=
  ⟨_, pe_bm PySem.F.plainAttrs_list PySem.F.slot_list_count PySem.F.type_list_count mt_lcountS ha.pe (pa_cons hb.pe pa_nil hs) hbase hfew hline hs hplain, fun hid O B H σ E d r hm Q q => by
  obtain ⟨a, h1, hm⟩ := bind_some hm
  obtain ⟨b, h2, hm⟩ := bind_some hm
  unfold cntD at hm
  split at hm
  · obtain ⟨ss, h3, rfl⟩ := map_some hm
    obtain ⟨ds, h4, h5⟩ := bind_some h3
    refine ha.si hid O B H σ E a r h1 _ fun v H1 e1 r1 => ?_
    obtain rfl := lstOnly_some h4
    obtain ⟨p', xs, rfl, g1, g2⟩ := r1.lst
    refine ⟨.inl ⟨rfl, xs, .inl (.inl g1)⟩, ?_⟩
    refine hb.si hid O B H1 σ E _ (r.grow e1) h2 _ fun u H2 e2 r2 => ?_
    obtain rfl := r2.str
    rw [allStrs_some h5] at g2
    rw [RpL.strs_of g2] at g1
    exact ⟨p', ss, _, rfl, rfl, .inl (.inl (e2 _ _ g1)), q _ H2 (e1.trans e2) (.int _)⟩
  · cases hm⟩
/-! ### targets = xs.pop() -/
@[simp] def mPopA (i : Nat) (mg : En → D → Option En) : En → Option Out := fun E => match E[i]? with
  | some (.ow ds) => ds.getLast?.bind fun d => (mg (E.set i (.ow ds.dropLast)) d).map .nx
  | _ => none
theorem RpL.dropLast {K : PySem.W.Frag} {H : Hp} {vs : List V} {ds : List D} (h : RpL K H vs ds) : RpL K H vs.dropLast ds.dropLast := by
  rw [List.dropLast_eq_take, List.dropLast_eq_take, h.length]
  exact h.take _
theorem ds_popA (i : Nat) {tg : Expr} {js : List Nat} {mg : En → D → Option En} (hg : DG X tg js mg) (hN : X.N[i]? = some x := by rfl) (hv : Vis X.env.scope x := by first | exact Or.inl rfl | exact Or.inr (Or.inl rfl) | exact Or.inr (Or.inr rfl)) (hd : (x == ("__debug__" : Str)) = false := by decide) (hcd : (x == ("__classdict__" : Str)) = false := by decide)
    (hbase : attributeBase (.Name x p) "pop" X.env (eval (.Name x p) X.env) = eval (.Name x p) X.env := by rfl) (hline : (apos.endLine == cpos.line) = true := by rfl)
    (hs : swapsWithSole [tg] (.Call (.Attribute (.Name x p) "pop" apos) [] [] cpos) pos.line X.env = pure false := by rfl) (hw : swappedStores [tg] (.Call (.Attribute (.Name x p) "pop" apos) [] [] cpos) X.env = pure none := by rfl)
    (h1 : (assignEach [tg] X.env).map (·.2) = [assign tg X.env] := by rfl) :
    DS X (.Assign [tg] (.Call (.Attribute (.Name x p) "pop" apos) [] [] cpos) pos) (mPopA i mg) :=
  ⟨_, ps_asg (pe_bm0 PySem.F.plainAttrs_list PySem.F.slot_list_pop PySem.F.type_list_pop mt_pop (pe_var hN hv hd hcd) hbase hline) hg.pg hs hw h1, fun hid O B H σ E o Dn r hm k => by
  unfold mPopA at hm
  split at hm
  · rename_i ds h2
    obtain ⟨d, h3, hm⟩ := bind_some hm
    obtain ⟨E', h4, rfl⟩ := map_some hm
    obtain ⟨q, xs, g1, g2, g3, g4⟩ := r.ow i ds h2
    refine ⟨.ref q, g1, .inl ⟨rfl, xs, .inl (.inl g3)⟩, ?_⟩
    have h5 : ds[ds.length - 1]? = some d := by rw [← List.getLast?_eq_getElem?]; exact h3
    obtain ⟨y, g5, g6⟩ := g4.get h5
    refine ⟨q, xs, y, rfl, rfl, g3, by rw [g4.length]; exact g5, ?_⟩
    have r2 := r.chg h2 g1 g4.dropLast
    exact hg.si hid O B _ σ _ y d E' r2 (g6.mono (rem_upd (.inr g2)) _) h4 _ fun σ' r' _ => k O σ' _ r'
  · cases hm⟩
/-! ### x op= e -/
@[simp] def mAug (f : Int → Int → Int) (i : Nat) (m : En → Option D) : En → Option Out := fun E => match E[i]? with
  | some (.fz (.int a)) => (m E).bind fun d => match d with
    | .int b => some (.nx (E.set i (.fz (.int (f a b)))))
    | _ => none
  | _ => none
theorem ss_aug {K : PySem.W.Frag} {f : Int → Int → Int} (i : Nat) {te : TE} (h : SE K te m) : SS K (tAug i te (ipI f)) (mAug f i m) := fun hid O B H σ E o Dn r hm k => by
  unfold mAug at hm
  split at hm
  · rename_i a h2
    obtain ⟨d, h3, hm⟩ := bind_some hm
    split at hm
    · cases hm
      obtain ⟨v, g1, g2⟩ := r.fz i _ h2
      cases g2
      refine ⟨_, g1, h hid O B H σ E _ r h3 _ fun v H1 e1 r1 => ?_⟩
      cases r1
      refine ⟨_, _, rfl, rfl, k O _ H1 ((r.grow e1).put i (.int _))⟩
    · cases hm
  · cases hm
theorem ds_augAdd (i : Nat) {pos' : Pos} (hN : X.N.Nodup) (he : DE X e m) (hi : X.N[i]? = some x := by rfl) (hx : Loc X.env.scope x := by first | exact Or.inl rfl | exact Or.inr rfl) (hf : X.fn x = true ∨ X.env.scope.names.lookup x = some .local := by first | exact .inl rfl | exact .inr rfl) :
    DS X (.AugAssign (.Name x pos') .Add e pos) (mAug (fun i j => i + j) i m) := ⟨_, ps_aug hN hi hx he.pe ip_add hf, ss_aug i he.si⟩
theorem ds_augSub (i : Nat) {pos' : Pos} (hN : X.N.Nodup) (he : DE X e m) (hi : X.N[i]? = some x := by rfl) (hx : Loc X.env.scope x := by first | exact Or.inl rfl | exact Or.inr rfl) (hf : X.fn x = true ∨ X.env.scope.names.lookup x = some .local := by first | exact .inl rfl | exact .inr rfl) :
    DS X (.AugAssign (.Name x pos') .Sub e pos) (mAug (fun i j => i - j) i m) := ⟨_, ps_aug hN hi hx he.pe ip_sub hf, ss_aug i he.si⟩
end
/-! ### defs with keyword-only parameters -/
/-- a def of the text, with keyword-only defaults -/
structure StandsK (K : PySem.W.Frag) (mg : Str → Option Value) (x : Str) (st : Stmt) (kws : List (Str × V)) : Prop where
  ex : ∃ (f : Addr) (fd : FuncData), mg x = some (.ref f) ∧ FunD K x x (defArgs st) (defBody st) (defScope st) [] kws f fd
structure CalK (P : Program) (w : World) (K : PySem.W.Frag) (mg : Str → Option Value) (base : Heap) (x : Str) (k n : Nat) (npos : Nat) (ks : List Str) (dvs : List V) (sp : Sp) : Prop where
  ex : ∃ (f : Addr) (fd : FuncData) (ps : List Str), mg x = some (.ref f) ∧ FnOk P w K mg base CX0 k f fd ps sp ∧ PySem.W.keepIn K (.ref f) = true ∧
    (∃ ds, Vals dvs ds ∧ Binds K fd ps ds) ∧ KBn K fd ps npos ks (fun us ws => us ++ ws) (fun vs zs => vs ++ zs)
theorem hid_ok {K : PySem.W.Frag} {hid O : AS} {B H : Hp} {σ : L2.St} {E : En} (re : RE K hid O B H σ E) : ∀ a, orS hid O a → IsM H a := fun a z => by
  rcases z with z | z
  · exact (re.hidd a z).mono re.ex
  · exact (re.own a z).2
section
variable {X : Cx} {x : Str} {k n npos : Nat} {ks : List Str} {dvs : List V} {m : List D → Option D} {mF : List D → Option (List D)} {e : Expr} {es : List Expr} {kws : List Keyword} {ma mk : En → Option (List D)} {p pos : Pos} {P : Program} {w : World} {K : PySem.W.Frag} {mg : Str → Option Value} {base : Heap} {A : Around}
/-- keyword arguments -/
def DK (X : Cx) (kws : List Keyword) (m : En → Option (List D)) : Prop := ∃ ta, PK X kws ta ∧ SA X.K ta m
theorem dk_nil : DK X [] mNil := ⟨_, pk_nil, fun hid O B H σ E ds re hm Q q => by
  cases hm
  exact q [] H (Ex.refl H) .nil⟩
theorem dk_cons {nm : Option Str} {kpos : Pos} {m1 : En → Option D} (h : DE X e m1) (hr : DK X kws mk) : DK X (⟨nm, e, kpos⟩ :: kws) (mCons m1 mk) := by
  obtain ⟨ta, h1, h2⟩ := hr
  refine ⟨_, pk_cons h.pe h1, fun hid O B H σ E ds re hm Q q => ?_⟩
  obtain ⟨d, h3, hm⟩ := bind_some hm
  obtain ⟨xs, h4, rfl⟩ := map_some hm
  refine h.si hid O B H σ E d re h3 _ fun v H1 e1 r1 => ?_
  exact h2 hid O B H1 σ E xs (re.grow e1) h4 _ fun vs H2 e2 r2 => q _ H2 (e1.trans e2) (.cons (r1.mono (rem_mono e2) _) r2)
@[simp] def mApL (a b : En → Option (List D)) : En → Option (List D) := fun E => (a E).bind fun xs => (b E).map fun ys => xs ++ ys
@[simp] def mApC (a : En → Option (List D)) (b : List D) : En → Option (List D) := fun E => (a E).map fun xs => xs ++ b
@[simp] def mLen (n : Nat) (a : En → Option (List D)) : En → Option (List D) := fun E => (a E).bind fun xs => if xs.length = n then some xs else none
theorem RpL.appI {H : Hp} : ∀ {vs us : List V} {ds es : List D}, RpL K H vs ds → RpL K H us es → RpL K H (vs ++ us) (ds ++ es) := RpL.app
theorem de_callK (G : CalK P w K mg base x k n npos ks dvs (spD K n m)) (hr : Room k A) (ha : DA X (e :: es) ma) (hk : DK X kws mk) (hA : X.A = A := by rfl) (hP : X.prog = P := by rfl) (hw : X.w = w := by rfl) (hK : X.K = K := by rfl) (hmg : X.mg = mg := by rfl) (hba : X.base = base := by rfl) (hg : Gl X x := by rfl)
    (hall : (backToKw pos (keywordEach kws X.env)).all (·.1.isSome) = true := by rfl) (hks : (backToKw pos (keywordEach kws X.env)).filterMap (·.1) = ks := by rfl)
    (hdb : (x == ("__debug__" : Str)) = false := by decide) (he : starEach (e :: es) X.env = (false, eval e X.env) :: starEach es X.env := by rfl)
    (hpl : ((backTo pos (starEach (e :: es) X.env)).any (·.1) || (backToKw pos (keywordEach kws X.env)).any (·.1.isNone)) = false := by rfl) :
    DE X (.Call (.Name x p) (e :: es) kws pos) (mCall n m (mApL (mLen npos ma) (mLen ks.length mk))) := by
  subst hA hP hw hK hmg hba
  obtain ⟨f, fd, ps, g1, g2, g3, _, g5⟩ := G.ex
  obtain ⟨tk, hk1, hk2⟩ := hk
  refine ⟨_, pe_callN g2 hr hg g1 g3 g5 pass0 ha.pa hk1 hall hks hdb he hpl, fun hid O B H σ E d re hm Q q => ?_⟩
  obtain ⟨ds, h1, hm⟩ := bind_some hm
  obtain ⟨l1, hm⟩ := (show ds.length = n ∧ m ds = some d by
    by_cases hl : ds.length = n
    · rw [if_pos hl] at hm
      exact ⟨hl, hm⟩
    · rw [if_neg hl] at hm
      cases hm)
  obtain ⟨xs, h2, h1'⟩ := bind_some h1
  obtain ⟨ys, h3, rfl⟩ := map_some h1'
  obtain ⟨xs', h2', h4'⟩ := bind_some h2
  obtain ⟨h4, rfl⟩ := ite_some h4'
  obtain ⟨ys', h3', h5'⟩ := bind_some h3
  obtain ⟨h5, rfl⟩ := ite_some h5'
  refine ha.si hid O B H σ E _ re h2' _ fun vs H1 e1 r1 => ?_
  refine hk2 hid O B H1 σ E _ (re.grow e1) h3' _ fun zs H2 e2 r2 => ⟨by rw [r1.length, h4], by rw [r2.length, h5], ?_⟩
  exact ⟨orS hid O, _, d, hid_ok ((re.grow e1).grow e2), (RpL.mono (rem_mono e2) _ r1).app r2, l1, hm, fun v H3 e3 r3 => q v H3 ((e1.trans e2).trans e3) r3⟩
theorem df_callK (G : CalK P w K mg base x k n npos ks dvs (spF K n mF)) (hr : Room k A) (ha : DA X (e :: es) ma) (hk : DK X kws mk) (hA : X.A = A := by rfl) (hP : X.prog = P := by rfl) (hw : X.w = w := by rfl) (hK : X.K = K := by rfl) (hmg : X.mg = mg := by rfl) (hba : X.base = base := by rfl) (hg : Gl X x := by rfl)
    (hall : (backToKw pos (keywordEach kws X.env)).all (·.1.isSome) = true := by rfl) (hks : (backToKw pos (keywordEach kws X.env)).filterMap (·.1) = ks := by rfl)
    (hdb : (x == ("__debug__" : Str)) = false := by decide) (he : starEach (e :: es) X.env = (false, eval e X.env) :: starEach es X.env := by rfl)
    (hpl : ((backTo pos (starEach (e :: es) X.env)).any (·.1) || (backToKw pos (keywordEach kws X.env)).any (·.1.isNone)) = false := by rfl) :
    DF X (.Call (.Name x p) (e :: es) kws pos) (mCallF n mF (mApL (mLen npos ma) (mLen ks.length mk))) := by
  subst hA hP hw hK hmg hba
  obtain ⟨f, fd, ps, g1, g2, g3, _, g5⟩ := G.ex
  obtain ⟨tk, hk1, hk2⟩ := hk
  refine ⟨_, pe_callN g2 hr hg g1 g3 g5 pass0 ha.pa hk1 hall hks hdb he hpl, fun hid O B H σ E d re hm Q q => ?_⟩
  obtain ⟨ds, h1, hm⟩ := bind_some hm
  obtain ⟨l1, hm⟩ := (show ds.length = n ∧ mF ds = some d by
    by_cases hl : ds.length = n
    · rw [if_pos hl] at hm
      exact ⟨hl, hm⟩
    · rw [if_neg hl] at hm
      cases hm)
  obtain ⟨xs, h2, h1'⟩ := bind_some h1
  obtain ⟨ys, h3, rfl⟩ := map_some h1'
  obtain ⟨xs', h2', h4'⟩ := bind_some h2
  obtain ⟨h4, rfl⟩ := ite_some h4'
  obtain ⟨ys', h3', h5'⟩ := bind_some h3
  obtain ⟨h5, rfl⟩ := ite_some h5'
  refine ha.si hid O B H σ E _ re h2' _ fun vs H1 e1 r1 => ?_
  refine hk2 hid O B H1 σ E _ (re.grow e1) h3' _ fun zs H2 e2 r2 => ⟨by rw [r1.length, h4], by rw [r2.length, h5], ?_⟩
  exact ⟨orS hid O, _, d, hid_ok ((re.grow e1).grow e2), (RpL.mono (rem_mono e2) _ r1).app r2, l1, hm, fun p xs H3 hp e3 hx r3 => q p xs H3 (Evl.fresh_back (e1.trans e2) hp) ((e1.trans e2).trans e3) hx r3⟩
theorem de_callD (G : CalK P w K mg base x k n npos ks dvs (spD K n m)) (dds : List D) (hdd : ∀ H, RpL K H dvs dds) (hr : Room k A) (ha : DA X (e :: es) ma) (hA : X.A = A := by rfl) (hP : X.prog = P := by rfl) (hw : X.w = w := by rfl) (hK : X.K = K := by rfl) (hmg : X.mg = mg := by rfl) (hba : X.base = base := by rfl) (hg : Gl X x := by rfl) (hdb : (x == ("__debug__" : Str)) = false := by decide) (he : starEach (e :: es) X.env = (false, eval e X.env) :: starEach es X.env := by rfl) (hpl : (backTo pos (starEach es X.env)).any (·.1) = false := by rfl) :
    DE X (.Call (.Name x p) (e :: es) [] pos) (mCall n m (mApC ma dds)) := by
  subst hA hP hw hK hmg hba
  obtain ⟨f, fd, ps, g1, g2, g3, ⟨ws, g4, g5⟩, _⟩ := G.ex
  refine ⟨_, pe_call g2 hr hg g1 g3 g5 g4 pass0 ha.pa hdb he hpl, fun hid O B H σ E d re hm Q q => ?_⟩
  obtain ⟨ds, h1, hm⟩ := bind_some hm
  obtain ⟨l1, hm⟩ := (show ds.length = n ∧ m ds = some d by
    by_cases hl : ds.length = n
    · rw [if_pos hl] at hm
      exact ⟨hl, hm⟩
    · rw [if_neg hl] at hm
      cases hm)
  obtain ⟨xs, h2, rfl⟩ := map_some h1
  refine ha.si hid O B H σ E _ re h2 _ fun vs H1 e1 r1 => ?_
  exact ⟨orS hid O, _, d, hid_ok (re.grow e1), r1.app (hdd _), l1, hm, fun v H3 e3 r3 => q v H3 (e1.trans e3) r3⟩
theorem df_callD (G : CalK P w K mg base x k n npos ks dvs (spF K n mF)) (dds : List D) (hdd : ∀ H, RpL K H dvs dds) (hr : Room k A) (ha : DA X (e :: es) ma) (hA : X.A = A := by rfl) (hP : X.prog = P := by rfl) (hw : X.w = w := by rfl) (hK : X.K = K := by rfl) (hmg : X.mg = mg := by rfl) (hba : X.base = base := by rfl) (hg : Gl X x := by rfl) (hdb : (x == ("__debug__" : Str)) = false := by decide) (he : starEach (e :: es) X.env = (false, eval e X.env) :: starEach es X.env := by rfl) (hpl : (backTo pos (starEach es X.env)).any (·.1) = false := by rfl) :
    DF X (.Call (.Name x p) (e :: es) [] pos) (mCallF n mF (mApC ma dds)) := by
  subst hA hP hw hK hmg hba
  obtain ⟨f, fd, ps, g1, g2, g3, ⟨ws, g4, g5⟩, _⟩ := G.ex
  refine ⟨_, pe_call g2 hr hg g1 g3 g5 g4 pass0 ha.pa hdb he hpl, fun hid O B H σ E d re hm Q q => ?_⟩
  obtain ⟨ds, h1, hm⟩ := bind_some hm
  obtain ⟨l1, hm⟩ := (show ds.length = n ∧ mF ds = some d by
    by_cases hl : ds.length = n
    · rw [if_pos hl] at hm
      exact ⟨hl, hm⟩
    · rw [if_neg hl] at hm
      cases hm)
  obtain ⟨xs, h2, rfl⟩ := map_some h1
  refine ha.si hid O B H σ E _ re h2 _ fun vs H1 e1 r1 => ?_
  exact ⟨orS hid O, _, d, hid_ok (re.grow e1), r1.app (hdd _), l1, hm, fun p xs H3 hp e3 hx r3 => q p xs H3 (Evl.fresh_back e1 hp) (e1.trans e3) hx r3⟩
end
section
variable {P : Program} {w : World} {K : PySem.W.Frag} {mg : Str → Option Value} {base : Heap}
theorem fn_mkK {x : Str} {st : Stmt} {N ps : List Str} {k n : Nat} {m : En → Option Out} {f : Addr} {fd : FuncData} {dv : List V} {kws : List (Str × V)} (F : FunD K x x (defArgs st) (defBody st) (defScope st) dv kws f fd) (S : FnScope N ps (defScope st)) (hn : ps.length = n)
    (hbody : ∀ (cdv : Value) (A : Around) (outer : List Env) (s : Shared) (H : Hp) (E : XK), Room k (A.deeper (envOfC x (defScope st) s.heap.objs.size f cdv)) →
      DSs (cxOf CX0 P w K mg base N x (defScope st) f cdv A outer s H E).nox (defBody st) m) : FnOk P w K mg base CX0 (k + 1) f fd ps (spD K n (callM n N.length m)) := by
  refine F.ok S (fun vs H Q E h => ?_) (fun cdv A outer s H vs Q E hr h => ?_)
  · obtain ⟨hid, ds, d, _, h1, h2, _⟩ := h
    rw [h1.length, h2, hn]
  · obtain ⟨hid, ds, d, h0, h1, h2, h3, q⟩ := h
    have T := hbody cdv A outer s H E hr
    refine ⟨_, T.ps.nox, ?_⟩
    have r0 : RE K hid noS H H (start N vs) (ds.map Sl.fz ++ List.replicate (N.length - ds.length) Sl.un) := RE.start h0 h1
    unfold callM at h3
    split at h3
    · rename_i d' e
      cases h3
      exact T.si hid noS H H _ _ (.rt d) _ r0 e fun v H' ex rv => q v H' ex rv
    · rename_i es e
      cases h3
      exact T.si hid noS H H _ _ (.rf es) _ r0 e fun p xs H' hp ex hx rv => q _ H' ex (.lst (rem_some.mpr ⟨fun z => (by
        obtain ⟨o, z, _⟩ := h0 p z
        rw [hp] at z
        cases z), hx⟩) (rv.mono (rem_sub fun a z => .inl z) es))
    · rename_i E' e
      cases h3
      exact T.si hid noS H H _ _ (.nx E') _ r0 e fun O' σ' H' r' => q .non H' r'.ex .non
    · cases h3
theorem fnF_mkK {x : Str} {st : Stmt} {N ps : List Str} {k n : Nat} {m : En → Option Out} {f : Addr} {fd : FuncData} {dv : List V} {kws : List (Str × V)} (F : FunD K x x (defArgs st) (defBody st) (defScope st) dv kws f fd) (S : FnScope N ps (defScope st)) (hn : ps.length = n)
    (hbody : ∀ (cdv : Value) (A : Around) (outer : List Env) (s : Shared) (H : Hp) (E : XK), Room k (A.deeper (envOfC x (defScope st) s.heap.objs.size f cdv)) →
      DSs (cxOf CX0 P w K mg base N x (defScope st) f cdv A outer s H E).nox (defBody st) m) : FnOk P w K mg base CX0 (k + 1) f fd ps (spF K n (callF n N.length m)) := by
  refine F.ok S (fun vs H Q E h => ?_) (fun cdv A outer s H vs Q E hr h => ?_)
  · obtain ⟨hid, ds, d, _, h1, h2, _⟩ := h
    rw [h1.length, h2, hn]
  · obtain ⟨hid, ds, es, h0, h1, h2, h3, q⟩ := h
    have T := hbody cdv A outer s H E hr
    refine ⟨_, T.ps.nox, ?_⟩
    have r0 : RE K hid noS H H (start N vs) (ds.map Sl.fz ++ List.replicate (N.length - ds.length) Sl.un) := RE.start h0 h1
    unfold callF at h3
    split at h3
    · rename_i es' e
      cases h3
      exact T.si hid noS H H _ _ (.rf es) _ r0 e fun p xs H' hp ex hx rv => q p xs H' hp ex hx rv
    · cases h3
theorem calK_of {x : Str} {st : Stmt} {ps : List Str} {k n npos : Nat} {kws : List (Str × V)} {sp : Sp} (F : StandsK K mg x st kws) (hk : kws ≠ [])
    (hn : npos + kws.length = ps.length)
    (hb0 : ∀ (D : Addr) (doc pm : Value) (an : Option Addr) (cdv ct : Value) (us ks : List Value), us.length = npos → ks.length = kws.length →
      KwChain D ((kws.map (·.1)).zip ks) (bindArgs (PySem.W.fnOf x x (defArgs st) (defBody st) (defScope st) .none (.ref D) doc pm an cdv ct) ⟨us, []⟩) (ps.zip (us ++ ks)))
    (hb1 : ∀ (D : Addr) (doc pm : Value) (an : Option Addr) (cdv ct : Value) (us ws : List Value), us.length = npos → ws.length = (kws.map (·.1)).length →
      bindArgs (PySem.W.fnOf x x (defArgs st) (defBody st) (defScope st) .none (.ref D) doc pm an cdv ct) ⟨us, (kws.map (·.1)).zip ws⟩ = pure (ps.zip (us ++ ws)))
    (h : ∀ {f : Addr} {fd : FuncData}, FunD K x x (defArgs st) (defBody st) (defScope st) [] kws f fd → FnOk P w K mg base CX0 k f fd ps sp) : CalK P w K mg base x k n npos (kws.map (·.1)) (kws.map (·.2)) sp := by
  obtain ⟨f, fd, g, F⟩ := F.ex
  obtain ⟨mv, kb⟩ := F.kbinds0 (ps := ps) npos (kws.map (·.1)) [] (fun us _ ws => us ++ ws) hk (fun q hq => by cases hq) (fun r1 _ r3 => r1.append r3) (fun D doc pm an cdv ct us mv ws l1 l2 l3 => by
    cases mv with
    | nil => exact hb1 D doc pm an cdv ct us ws l1 l3
    | cons _ _ => cases l2)
  exact ⟨f, fd, ps, g, h F, F.kp, F.binds0 npos hk hn hb0, kb⟩
end
end Sx

set_option Elab.async false
set_option linter.all false
set_option maxRecDepth 100000
set_option maxHeartbeats 1000000
namespace Sx
open PySem PySem.Spec PyProof.Rows L2
open Evl (Ex)

/-! ### a node's name is not used -/
mutual
@[simp] def rNo (n : Nat) : R → Bool
  | .fz _ => true
  | .rf m => m != n
  | .tp rs => rNos n rs
@[simp] def rNos (n : Nat) : List R → Bool
  | [] => true
  | r :: rs => rNo n r && rNos n rs
end
@[simp] def ndNo (n : Nat) : Nd → Bool
  | .lst rs => rNos n rs
  | .dct _ rs => rNos n rs
  | .obj _ _ _ rs => rNos n rs
  | .ll _ => true
@[simp] def slNo (n : Nat) : Sl → Bool
  | .rt r => rNo n r
  | .nd x => ndNo n x
  | _ => true
mutual
@[simp] def rSub (n : Nat) (d : D) : R → R
  | .fz e => .fz e
  | .rf m => if m = n then .fz d else .rf m
  | .tp rs => .tp (rSubs n d rs)
@[simp] def rSubs (n : Nat) (d : D) : List R → List R
  | [] => []
  | r :: rs => rSub n d r :: rSubs n d rs
end
@[simp] def ndSub (n : Nat) (d : D) : Nd → Nd
  | .lst rs => .lst (rSubs n d rs)
  | .dct ks rs => .dct ks (rSubs n d rs)
  | .obj q x fs rs => .obj q x fs (rSubs n d rs)
  | .ll dss => .ll dss
@[simp] def slSub (n : Nat) (d : D) : Sl → Sl
  | .rt r => .rt (rSub n d r)
  | .nd x => .nd (ndSub n d x)
  | s => s
@[simp] def noE (n : Nat) (E : En) : Bool := E.all (slNo n)
@[simp] def subE (n : Nat) (d : D) (E : En) : En := (E.map (slSub n d)).set n .un
section
variable {K : PySem.W.Frag} {H : Hp} {θ θ' : Nat → Addr} {n : Nat}
mutual
theorem ROk.th (h : ∀ m, m ≠ n → θ' m = θ m) : ∀ (r : R) {v : V}, rNo n r = true → ROk K H θ v r → ROk K H θ' v r
  | .fz d, v, _, q => by cases q with | fz q => exact .fz q
  | .rf m, v, z, q => by
    cases q
    rw [rNo] at z
    rw [← h m (by simpa using z)]
    exact .rf m
  | .tp rs, v, z, q => by
    rw [rNo] at z
    cases q with
    | tp h1 h2 => exact .tp h1 (ROks.th h rs z h2)
theorem ROks.th (h : ∀ m, m ≠ n → θ' m = θ m) : ∀ (rs : List R) {vs : List V}, rNos n rs = true → ROks K H θ vs rs → ROks K H θ' vs rs
  | [], vs, _, q => by cases q; exact .nil
  | r :: rs, vs, z, q => by
    rw [rNos, Bool.and_eq_true] at z
    cases q with
    | cons h1 h2 => exact .cons (ROk.th h r z.1 h1) (ROks.th h rs z.2 h2)
end
mutual
theorem ROk.sub {d : D} (h : Rp K H (.ref (θ n)) d) : ∀ (r : R) {v : V}, ROk K H θ v r → ROk K H θ v (rSub n d r)
  | .fz d, v, q => by rw [rSub]; exact q
  | .rf m, v, q => by
    cases q
    rw [rSub]
    by_cases e : m = n
    · rw [if_pos e, e]
      exact .fz h
    · rw [if_neg e]
      exact .rf m
  | .tp rs, v, q => by
    rw [rSub]
    cases q with
    | tp h1 h2 => exact .tp h1 (ROks.sub h rs h2)
theorem ROks.sub {d : D} (h : Rp K H (.ref (θ n)) d) : ∀ (rs : List R) {vs : List V}, ROks K H θ vs rs → ROks K H θ vs (rSubs n d rs)
  | [], vs, q => by cases q; rw [rSubs]; exact .nil
  | r :: rs, vs, q => by
    rw [rSubs]
    cases q with
    | cons h1 h2 => exact .cons (ROk.sub h r h1) (ROks.sub h rs h2)
end
theorem NdOk.th {Hv : Hp} {p : Addr} {w : List Addr} {x : Nd} (h : ∀ m, m ≠ n → θ' m = θ m) (z : ndNo n x = true) (q : NdOk K H Hv θ p w x) : NdOk K H Hv θ' p w x := by
  cases x with
  | lst rs => obtain ⟨xs, h1, h2⟩ := q; exact ⟨xs, h1, h2.th h rs z⟩
  | dct ks rs => obtain ⟨xs, h1, h2, h3⟩ := q; exact ⟨xs, h1, h2, h3.th h rs z⟩
  | obj qa y fs rs => obtain ⟨dx, xs, h0, h1, h2, h3⟩ := q; exact ⟨dx, xs, h0, h1, h2, h3.th h rs z⟩
  | ll dss => exact q
theorem NdOk.sub {Hv : Hp} {p : Addr} {w : List Addr} {x : Nd} {d : D} (h : Rp K Hv (.ref (θ n)) d) (q : NdOk K H Hv θ p w x) : NdOk K H Hv θ p w (ndSub n d x) := by
  cases x with
  | lst rs => obtain ⟨xs, h1, h2⟩ := q; exact ⟨xs, h1, h2.sub h rs⟩
  | dct ks rs => obtain ⟨xs, h1, h2, h3⟩ := q; exact ⟨xs, h1, h2, h3.sub h rs⟩
  | obj qa y fs rs => obtain ⟨dx, xs, h0, h1, h2, h3⟩ := q; exact ⟨dx, xs, h0, h1, h2, h3.sub h rs⟩
  | ll dss => exact q
end
theorem noE_at {n i : Nat} {E : En} {s : Sl} (h : noE n E = true) (e : E[i]? = some s) : slNo n s = true := List.all_eq_true.mp h s (List.mem_of_getElem? e)
section
variable {K : PySem.W.Frag} {hid O : AS} {B H H' : Hp} {σ : L2.St} {E : En} {n : Nat}
/-- a new node, held by no slot yet -/
theorem RE.newN (r : RE K hid O B H σ E) {p : Addr} {w : List Addr} {x : Nd} (hp : ∀ a ∈ p :: w, H a = none) (e : Ex H H') (hx : ∀ a ∈ p :: w, IsM H' a) (no : noE n E = true) (ok : ∀ θ, NdOk K H' (rem (orS hid (orS O (· ∈ p :: w))) H') θ p w x) :
    ∃ θ ω, NodW K hid (orS O (· ∈ p :: w)) H' σ (E.set n (.nd x)) θ ω ∧ θ n = p ∧ RE K hid (orS O (· ∈ p :: w)) B H' σ (E.set n (.nd x)) := by
  have fr : ∀ a ∈ p :: w, ¬ O a := fun a ha z => r.fresh (hp a ha) (.inr z)
  have vis : Ex (rem (orS hid O) H) (rem (orS hid (orS O (· ∈ p :: w))) H') := fun a o q => by
    obtain ⟨z1, z2⟩ := rem_some.mp q
    refine rem_some.mpr ⟨fun z => ?_, e a o z2⟩
    rcases z with z | z | z
    · exact z1 (.inl z)
    · exact z1 (.inr z)
    · rw [hp a z] at z2
      cases z2
  obtain ⟨θ, ω, N⟩ := r.nod
  have hth : ∀ m, m ≠ n → (fun m => if m = n then p else θ m) m = θ m := fun m z => if_neg z
  have NW : NodW K hid (orS O (· ∈ p :: w)) H' σ (E.set n (.nd x)) (fun m => if m = n then p else θ m) (fun m => if m = n then w else ω m) := by
    refine ⟨fun m y q => ?_, fun m m' y y' d q1 q2 a ha hb => ?_, fun i t q => ?_, fun i m ds y q' q1 q2 s1 z => ?_⟩
    · rcases set_at q with ⟨z, z2⟩ | ⟨z, q⟩
      · cases z2
        rw [if_pos z.symm, if_pos z.symm]
        exact ⟨fun a ha => .inr ha, ok _⟩
      · have z' : ¬ m = n := fun y => z y.symm
        rw [if_neg z', if_neg z']
        obtain ⟨k1, k2⟩ := N.nd m y q
        exact ⟨fun a ha => .inl (k1 a ha), (k2.mono (fun a ha o h => e a o h) vis).th hth (noE_at no q)⟩
    · rcases set_at q1 with ⟨z, z2⟩ | ⟨z, q1⟩ <;> rcases set_at q2 with ⟨u, u2⟩ | ⟨u, q2⟩
      · exact d (z.symm.trans u)
      · have u' : ¬ m' = n := fun y => u y.symm
        simp only [if_pos z.symm] at ha
        simp only [if_neg u'] at hb
        exact fr a ha ((N.nd m' y' q2).1 a hb)
      · have z' : ¬ m = n := fun y => z y.symm
        simp only [if_pos u.symm] at hb
        simp only [if_neg z'] at ha
        exact fr a hb ((N.nd m y q1).1 a ha)
      · have z' : ¬ m = n := fun y => z y.symm
        have u' : ¬ m' = n := fun y => u y.symm
        simp only [if_neg z'] at ha
        simp only [if_neg u'] at hb
        exact N.inj m m' y y' d q1 q2 a ha hb
    · rcases set_at q with ⟨z, z2⟩ | ⟨z, q⟩
      · cases z2
      · obtain ⟨v, k1, k2⟩ := N.rt i t q
        exact ⟨v, k1, (k2.mono vis t).th hth t (noE_at no q)⟩
    · rcases set_at q1 with ⟨u, u2⟩ | ⟨u, q1⟩
      · cases u2
      obtain ⟨q2', xs, k1, k2, _⟩ := r.ow i ds q1
      rw [s1] at k1
      cases k1
      rcases set_at q2 with ⟨u, u2⟩ | ⟨u, q2⟩
      · simp only [if_pos u.symm] at z
        exact fr _ z k2
      · have u' : ¬ m = n := fun y => u y.symm
        simp only [if_neg u'] at z
        exact N.dis i m ds y _ q1 q2 s1 z
  refine ⟨_, _, NW, if_pos rfl, ⟨fun a o q => ⟨e a o (r.base a o q).1, fun z => ?_⟩, fun a z => ?_, r.hidd, ?_, fun i d q => ?_, fun i es q => ?_, fun i k q es fs hik q1 q2 s1 s2 => ?_, ⟨_, _, NW⟩⟩⟩
  · rcases z with z | z
    · exact (r.base a o q).2 z
    · have := hp a z
      rw [(r.base a o q).1] at this
      cases this
  · rcases z with z | z
    · exact ⟨(r.own a z).1, (r.own a z).2.mono e⟩
    · exact ⟨fun y => r.fresh (hp a z) (.inl y), hx a z⟩
  · rw [List.length_set]
    exact r.len
  · rcases set_at q with ⟨_, z⟩ | ⟨_, q⟩
    · cases z
    obtain ⟨v, h1, h2⟩ := r.fz i d q
    exact ⟨v, h1, h2.mono vis d⟩
  · rcases set_at q with ⟨_, z⟩ | ⟨_, q⟩
    · cases z
    obtain ⟨q', ys, h1, h2, h3, h4⟩ := r.ow i es q
    exact ⟨q', ys, h1, .inl h2, e _ _ h3, h4.mono vis es⟩
  · rcases set_at q1 with ⟨_, z⟩ | ⟨_, q1⟩
    · cases z
    rcases set_at q2 with ⟨_, z⟩ | ⟨_, q2⟩
    · cases z
    exact r.dis i k q es fs hik q1 q2 s1 s2
/-- a slot names data with owned objects in it -/
theorem RE.putR (r : RE K hid O B H σ E) {θ : Nat → Addr} {ω : Nat → List Addr} (N : NodW K hid O H σ E θ ω) {v : V} {t : R} (j : Nat) (h : ROk K (rem (orS hid O) H) θ v t) : RE K hid O B H (σ.set j (some v)) (E.set j (.rt t)) where
  base := r.base
  own := r.own
  hidd := r.hidd
  len := by rw [List.length_set, List.length_set]; exact r.len
  fz := fun i d' q => by
    rcases set_at q with ⟨rfl, e⟩ | ⟨e, q⟩
    · cases e
    · rw [List.getElem?_set_ne e]
      exact r.fz i d' q
  ow := fun i ds q => by
    rcases set_at q with ⟨rfl, e⟩ | ⟨e, q⟩
    · cases e
    · rw [List.getElem?_set_ne e]
      exact r.ow i ds q
  dis := fun i k p ds es hik q1 q2 s1 s2 => by
    rcases set_at q1 with ⟨rfl, e⟩ | ⟨n1, q1⟩
    · cases e
    rcases set_at q2 with ⟨rfl, e⟩ | ⟨n2, q2⟩
    · cases e
    rw [List.getElem?_set_ne n1] at s1
    rw [List.getElem?_set_ne n2] at s2
    exact r.dis i k p ds es hik q1 q2 s1 s2
  nod := by
    have c1 : ∀ (n : Nat) (x : Nd), (E.set j (.rt t))[n]? = some (Sl.nd x) → E[n]? = some (Sl.nd x) := fun n x q => by
      rcases set_at q with ⟨rfl, e⟩ | ⟨e, q⟩
      · cases e
      · exact q
    refine ⟨θ, ω, fun n x q => N.nd n x (c1 n x q), fun n m x y d q1 q2 => N.inj n m x y d (c1 n x q1) (c1 m y q2), fun i u q => ?_, fun i n ds x p q1 q2 s1 => ?_⟩
    · have hl : i < E.length := by
        have := (List.getElem?_eq_some_iff.mp q).1
        rwa [List.length_set] at this
      rcases set_at q with ⟨rfl, e⟩ | ⟨e, q⟩
      · cases e
        exact ⟨v, List.getElem?_set_self (r.len ▸ hl), h⟩
      · rw [List.getElem?_set_ne e]
        exact N.rt i u q
    · rcases set_at q1 with ⟨rfl, e⟩ | ⟨e, q1⟩
      · cases e
      · rw [List.getElem?_set_ne e] at s1
        exact N.dis i n ds x p q1 (c1 n x q2) s1
/-- a node changes -/
theorem RE.chgN (r : RE K hid O B H σ E) {θ : Nat → Addr} {ω : Nat → List Addr} (N : NodW K hid O H σ E θ ω) {x x' : Nd} {a : Addr} {ob : HO} (hn : E[n]? = some (.nd x)) (ha : a ∈ θ n :: ω n) (mu : MutO ob)
    (ok : NdOk K (upd H a ob) (rem (orS hid O) (upd H a ob)) θ (θ n) (ω n) x') : RE K hid O B (upd H a ob) σ (E.set n (.nd x')) := by
  have hO := (N.nd n x hn).1 a ha
  have vis : Ex (rem (orS hid O) H) (rem (orS hid O) (upd H a ob)) := rem_upd (.inr hO)
  have eo : ∀ b o, b ≠ a → H b = some o → upd H a ob b = some o := fun b o n q => by rw [upd_ne n]; exact q
  have c1 : ∀ (m : Nat) (y : Nd), m ≠ n → (E.set n (.nd x'))[m]? = some (Sl.nd y) → E[m]? = some (Sl.nd y) := fun m y d q => by
    rcases set_at q with ⟨z, e⟩ | ⟨e, q⟩
    · exact absurd z.symm d
    · exact q
  have c2 : ∀ (m : Nat) (y : Nd), (E.set n (.nd x'))[m]? = some (Sl.nd y) → ∃ y', E[m]? = some (Sl.nd y') := fun m y q => by
    rcases set_at q with ⟨z, e⟩ | ⟨e, q⟩
    · exact ⟨x, z ▸ hn⟩
    · exact ⟨y, q⟩
  refine ⟨fun b o q => ⟨eo b o (fun z => (r.base b o q).2 (z ▸ hO)) (r.base b o q).1, (r.base b o q).2⟩, fun b z => ⟨(r.own b z).1, ?_⟩, r.hidd, ?_, fun i d q => ?_, fun i es q => ?_, fun i k q es fs hik q1 q2 s1 s2 => ?_, ⟨θ, ω, fun m y q => ?_, fun m m' y y' d q1 q2 => ?_, fun i u q => ?_, fun i m ds y p q1 q2 s1 => ?_⟩⟩
  · by_cases e : b = a
    · subst e
      exact ⟨_, upd_same, mu⟩
    · obtain ⟨o, q, m⟩ := (r.own b z).2
      exact ⟨o, eo b _ e q, m⟩
  · rw [List.length_set]
    exact r.len
  · rcases set_at q with ⟨_, z⟩ | ⟨_, q⟩
    · cases z
    obtain ⟨v, h1, h2⟩ := r.fz i d q
    exact ⟨v, h1, h2.mono vis d⟩
  · rcases set_at q with ⟨_, z⟩ | ⟨_, q⟩
    · cases z
    obtain ⟨q', ys, h1, h2, h3, h4⟩ := r.ow i es q
    exact ⟨q', ys, h1, h2, eo _ _ (fun z => N.dis i n es x q' q hn h1 (z ▸ ha)) h3, h4.mono vis es⟩
  · rcases set_at q1 with ⟨_, z⟩ | ⟨_, q1⟩
    · cases z
    rcases set_at q2 with ⟨_, z⟩ | ⟨_, q2⟩
    · cases z
    exact r.dis i k q es fs hik q1 q2 s1 s2
  · rcases set_at q with ⟨z, e⟩ | ⟨e, q⟩
    · subst z
      cases e
      exact ⟨(N.nd n x hn).1, ok⟩
    · obtain ⟨k1, k2⟩ := N.nd m y q
      exact ⟨k1, k2.mono (fun b hb o z => eo b o (fun w => N.inj n m x y e hn q a ha (w ▸ hb)) z) vis⟩
  · obtain ⟨z1, e1⟩ := c2 m y q1
    obtain ⟨z2, e2⟩ := c2 m' y' q2
    exact N.inj m m' z1 z2 d e1 e2
  · rcases set_at q with ⟨_, z⟩ | ⟨_, q⟩
    · cases z
    obtain ⟨v, k1, k2⟩ := N.rt i u q
    exact ⟨v, k1, k2.mono vis u⟩
  · rcases set_at q1 with ⟨_, z⟩ | ⟨_, q1⟩
    · cases z
    obtain ⟨z2, e2⟩ := c2 m y q2
    exact N.dis i m ds z2 p q1 e2 s1
@[simp] def ndD : Nd → Option D
  | .ll dss => some (.lst (dss.map .lst))
  | x => ndT x
theorem LLs.rp {K : PySem.W.Frag} {H Hv : Hp} : ∀ {qs : List Addr} {dss : List (List D)}, LLs K H Hv qs dss → (∀ a ∈ qs, ∀ o, H a = some o → Hv a = some o) → RpL K Hv (qs.map V.ref) (dss.map .lst)
  | [], [], _, _ => .nil
  | q :: qs, ds :: dss, h, e => by
    obtain ⟨xs, h1, h2⟩ := h.1
    exact .cons (.lst (e q (List.mem_cons_self ..) _ h1) h2) (LLs.rp (qs := qs) (dss := dss) h.2 fun a ha => e a (List.mem_cons_of_mem _ ha))
  | [], _ :: _, h, _ => h.elim
  | _ :: _, [], h, _ => h.elim
theorem sub_at {n i : Nat} {d : D} {E : En} {s : Sl} (h : (subE n d E)[i]? = some s) (hs : s ≠ .un) : i ≠ n ∧ ∃ s0, E[i]? = some s0 ∧ slSub n d s0 = s := by
  rcases set_at h with ⟨z, e⟩ | ⟨e, q⟩
  · exact absurd e.symm hs
  · rw [List.getElem?_map] at q
    obtain ⟨s0, q1, q2⟩ := map_some q
    exact ⟨fun z => e z.symm, s0, q1, q2⟩
theorem slSub_fz {n : Nat} {d e : D} {s : Sl} (h : slSub n d s = .fz e) : s = .fz e := by cases s <;> first | exact h | cases h
theorem slSub_ow {n : Nat} {d : D} {e : List D} {s : Sl} (h : slSub n d s = .ow e) : s = .ow e := by cases s <;> first | exact h | cases h
theorem slSub_rt {n : Nat} {d : D} {e : R} {s : Sl} (h : slSub n d s = .rt e) : ∃ r, s = .rt r ∧ rSub n d r = e := by
  cases s <;> first | (cases h; done) | skip
  case rt r => cases h; exact ⟨r, rfl, rfl⟩
theorem slSub_nd {n : Nat} {d : D} {e : Nd} {s : Sl} (h : slSub n d s = .nd e) : ∃ r, s = .nd r ∧ ndSub n d r = e := by
  cases s <;> first | (cases h; done) | skip
  case nd r => cases h; exact ⟨r, rfl, rfl⟩
/-- a node becomes like any other value -/
theorem RE.frzN (r : RE K hid O B H σ E) {x : Nd} {d : D} (hn : E[n]? = some (.nd x)) (hx : ndD x = some d) : ∃ O', RE K hid O' B H σ (subE n d E) := by
  obtain ⟨θ, ω, N⟩ := r.nod
  obtain ⟨ho, hk⟩ := N.nd n x hn
  have vis : Ex (rem (orS hid O) H) (rem (orS hid fun a => O a ∧ a ∉ θ n :: ω n) H) := rem_sub fun a z => z.elim .inl fun z => .inr z.1
  have me : ∀ a ∈ θ n :: ω n, ∀ o, H a = some o → rem (orS hid fun a => O a ∧ a ∉ θ n :: ω n) H a = some o := fun a ha o q => rem_some.mpr ⟨fun z => by
    rcases z with z | z
    · exact (r.own a (ho a ha)).1 z
    · exact z.2 ha, q⟩
  have hd : Rp K (rem (orS hid fun a => O a ∧ a ∉ θ n :: ω n) H) (.ref (θ n)) d := by
    have m0 := me _ (List.mem_cons_self ..)
    cases x with
    | lst rs =>
      obtain ⟨ds, e1, rfl⟩ := map_some hx
      obtain ⟨xs, k1, k2⟩ := hk
      exact .lst (m0 _ k1) ((closeds_ok rs k2 e1).mono vis _)
    | dct ks rs =>
      obtain ⟨ds, e1, rfl⟩ := map_some hx
      obtain ⟨xs, k1, k2, k3⟩ := hk
      exact .dct (m0 _ k1) k2 ((closeds_ok rs k3 e1).mono vis _)
    | obj qa y fs rs =>
      obtain ⟨ds, e1, rfl⟩ := map_some hx
      obtain ⟨dx, xs, _, k1, k2, k3⟩ := hk
      exact .obj (m0 _ k1) k2 ((closeds_ok rs k3 e1).mono vis _)
    | ll dss =>
      cases hx
      obtain ⟨k1, k2, k3, k4⟩ := hk
      exact .lst (m0 _ k1) ((k4.mono (fun a ha o z => z) vis).rp fun a ha o z => me a (List.mem_cons_of_mem _ ha) o z)
  refine ⟨fun a => O a ∧ a ∉ θ n :: ω n, fun a o q => ⟨(r.base a o q).1, fun z => (r.base a o q).2 z.1⟩, fun a z => r.own a z.1, r.hidd, ?_, fun i e q => ?_, fun i es q => ?_, fun i k q es fs hik q1 q2 s1 s2 => ?_, ⟨θ, ω, fun m y q => ?_, fun m m' y y' dd q1 q2 => ?_, fun i u q => ?_, fun i m ds y p q1 q2 s1 => ?_⟩⟩
  · rw [subE, List.length_set, List.length_map]
    exact r.len
  · obtain ⟨_, s0, z1, z2⟩ := sub_at q (fun z => by cases z)
    cases slSub_fz z2
    obtain ⟨v, h1, h2⟩ := r.fz i e z1
    exact ⟨v, h1, h2.mono vis e⟩
  · obtain ⟨_, s0, z1, z2⟩ := sub_at q (fun z => by cases z)
    cases slSub_ow z2
    obtain ⟨q', ys, h1, h2, h3, h4⟩ := r.ow i es z1
    exact ⟨q', ys, h1, ⟨h2, fun z => N.dis i n es x q' z1 hn h1 z⟩, h3, h4.mono vis es⟩
  · obtain ⟨_, s0, z1, z2⟩ := sub_at q1 (fun z => by cases z)
    cases slSub_ow z2
    obtain ⟨_, s0, z3, z4⟩ := sub_at q2 (fun z => by cases z)
    cases slSub_ow z4
    exact r.dis i k q es fs hik z1 z3 s1 s2
  · obtain ⟨z0, s0, z1, z2⟩ := sub_at q (fun z => by cases z)
    obtain ⟨y0, rfl, rfl⟩ := slSub_nd z2
    obtain ⟨k1, k2⟩ := N.nd m y0 z1
    exact ⟨fun a ha => ⟨k1 a ha, fun z => N.inj n m x y0 (fun w => z0 w.symm) hn z1 a z ha⟩, (k2.mono (fun a ha o z => z) vis).sub hd⟩
  · obtain ⟨_, s0, z1, z2⟩ := sub_at q1 (fun z => by cases z)
    obtain ⟨y0, rfl, rfl⟩ := slSub_nd z2
    obtain ⟨_, s0, z3, z4⟩ := sub_at q2 (fun z => by cases z)
    obtain ⟨y1, rfl, rfl⟩ := slSub_nd z4
    exact N.inj m m' y0 y1 dd z1 z3
  · obtain ⟨_, s0, z1, z2⟩ := sub_at q (fun z => by cases z)
    obtain ⟨u0, rfl, rfl⟩ := slSub_rt z2
    obtain ⟨v, k1, k2⟩ := N.rt i u0 z1
    exact ⟨v, k1, (k2.mono vis u0).sub hd u0⟩
  · obtain ⟨_, s0, z1, z2⟩ := sub_at q1 (fun z => by cases z)
    cases slSub_ow z2
    obtain ⟨_, s0, z3, z4⟩ := sub_at q2 (fun z => by cases z)
    obtain ⟨y1, rfl, rfl⟩ := slSub_nd z4
    exact N.dis i m ds y1 p z1 z3 s1
end
end Sx

set_option Elab.async false
set_option linter.all false
set_option maxRecDepth 100000
set_option maxHeartbeats 1000000
namespace Sx
open PySem PySem.Spec PyProof.Rows L2
open Evl (Ex)

/-! ### two readings of one text -/
theorem PE.or {X : Cx} {e : Expr} {t u : TE} (h : PE X e t) (g : PE X e u) : PE X e (fun σ H Q => t σ H Q ∨ u σ H Q) := ⟨fun pins s σ H Q I q => q.elim (h.run pins s σ H Q I) (g.run pins s σ H Q I)⟩
theorem PT.or {X : Cx} {e : Expr} {t u : TT} (h : PT X e t) (g : PT X e u) : PT X e (fun σ H Q => t σ H Q ∨ u σ H Q) := ⟨fun pins s σ H Q I q => q.elim (h.run pins s σ H Q I) (g.run pins s σ H Q I)⟩
theorem PS.or {X : Cx} {e : Stmt} {t u : TS} (h : PS X e t) (g : PS X e u) : PS X e (fun Dn σ H => t Dn σ H ∨ u Dn σ H) := ⟨fun pins s σ H Q I q => q.elim (h.run pins s σ H Q I) (g.run pins s σ H Q I)⟩
/-- what is never reached -/
@[simp] def mNever : En → Option Out := fun _ => none
theorem ds_never {X : Cx} {st : Stmt} : DS X st mNever := ⟨fun _ _ _ => False, ⟨fun pins s σ H Q I q => q.elim⟩, fun hid O B H σ E o Dn r hm k => by cases hm⟩

/-! ### tables -/
section
variable {κ α β : Type} [DecidableEq κ]
def atK : List κ → List α → κ → Option α
  | k :: ks, x :: xs, j => if k = j then some x else atK ks xs j
  | _, _, _ => none
def memK (k : κ) (ks : List κ) : Bool := decide (k ∈ ks)
def putKey (ks : List κ) (k : κ) : List κ := if k ∈ ks then ks else ks ++ [k]
def putVal (ks : List κ) (xs : List α) (k : κ) (y : α) : List α := if k ∈ ks then List.zipWith (fun j x => if j = k then y else x) ks xs else xs ++ [y]
theorem valV_zip (k : κ) : ∀ (ks : List κ) (xs : List V), valV (ks.zip xs) k = atK ks xs k
  | [], xs => by cases xs <;> rfl
  | j :: ks, [] => rfl
  | j :: ks, x :: xs => by
    rw [List.zip_cons_cons, atK]
    by_cases h : j = k
    · rw [valV_pos h, if_pos h]
    · rw [valV_neg h, if_neg h, valV_zip k ks xs]
theorem any_zip (k : κ) : ∀ (ks : List κ) (xs : List V), ks.length = xs.length → ((ks.zip xs).any fun kv => decide (kv.1 = k)) = decide (k ∈ ks)
  | [], xs, _ => by cases xs <;> rfl
  | j :: ks, [], h => by cases h
  | j :: ks, x :: xs, h => by
    rw [List.zip_cons_cons, List.any_cons, any_zip k ks xs (Nat.succ.inj h)]
    by_cases e : j = k
    · simp [e]
    · have e' : ¬ k = j := fun z => e z.symm
      simp [e, e']
theorem map_zip (k : κ) (y : V) : ∀ (ks : List κ) (xs : List V), (ks.zip xs).map (fun kv => if kv.1 = k then (kv.1, y) else kv) = ks.zip (List.zipWith (fun j x => if j = k then y else x) ks xs)
  | [], xs => by cases xs <;> rfl
  | j :: ks, [] => rfl
  | j :: ks, x :: xs => by
    rw [List.zip_cons_cons, List.map_cons, map_zip k y ks xs, List.zipWith_cons_cons, List.zip_cons_cons]
    by_cases e : j = k
    · simp [e]
    · simp [e]
theorem putK_zip (k : κ) (y : V) (ks : List κ) (xs : List V) (h : ks.length = xs.length) : putK (ks.zip xs) k y = (putKey ks k).zip (putVal ks xs k y) := by
  unfold putK putKey putVal
  rw [any_zip k ks xs h]
  by_cases e : k ∈ ks
  · rw [if_pos (decide_eq_true e), if_pos e, if_pos e, map_zip]
  · rw [if_neg (by simpa using e), if_neg e, if_neg e, List.zip_append h]
    rfl
theorem put_len (k : κ) (y : α) (ks : List κ) (xs : List α) (h : ks.length = xs.length) : (putKey ks k).length = (putVal ks xs k y).length := by
  unfold putKey putVal
  by_cases e : k ∈ ks
  · rw [if_pos e, if_pos e, List.length_zipWith]
    omega
  · rw [if_neg e, if_neg e, List.length_append, List.length_append, h]
    rfl
theorem atK_rp {K : PySem.W.Frag} {H : Hp} {k : κ} {d : D} : ∀ {ks : List κ} {xs : List V} {ds : List D}, RpL K H xs ds → atK ks ds k = some d → ∃ v, atK ks xs k = some v ∧ Rp K H v d
  | [], xs, ds, _, e => by cases ds <;> cases e
  | j :: ks, xs, [], h, e => by cases e
  | j :: ks, xs, d' :: ds, h, e => by
    cases h with
    | cons h1 h2 =>
      rw [atK] at e
      by_cases z : j = k
      · rw [if_pos z] at e
        cases e
        exact ⟨_, by rw [atK, if_pos z], h1⟩
      · rw [if_neg z] at e
        obtain ⟨v, g1, g2⟩ := atK_rp h2 e
        exact ⟨v, by rw [atK, if_neg z]; exact g1, g2⟩
theorem atK_isSome {k : κ} : ∀ {ks : List κ} {xs : List α}, ks.length = xs.length → (atK ks xs k).isSome = memK k ks
  | [], [], _ => rfl
  | j :: ks, x :: xs, h => by
    rw [atK]
    by_cases z : j = k
    · rw [if_pos z]
      simp [z, memK]
    · have z' : ¬ k = j := fun w => z w.symm
      rw [if_neg z, atK_isSome (Nat.succ.inj h)]
      simp [z', memK]
  | [], _ :: _, h => by cases h
  | _ :: _, [], h => by cases h
theorem zipR {K : PySem.W.Frag} {H : Hp} {θ : Nat → Addr} {k : κ} {y : V} {t : R} (hy : ROk K H θ y t) : ∀ {ks : List κ} {xs : List V} {rs : List R}, ROks K H θ xs rs → ROks K H θ (List.zipWith (fun j x => if j = k then y else x) ks xs) (List.zipWith (fun j x => if j = k then t else x) ks rs)
  | [], xs, rs, _ => by cases xs <;> cases rs <;> exact .nil
  | j :: ks, xs, [], h => by cases h; exact .nil
  | j :: ks, xs, r :: rs, h => by
    cases h with
    | cons h1 h2 =>
      rw [List.zipWith_cons_cons, List.zipWith_cons_cons]
      refine .cons ?_ (zipR hy h2)
      by_cases e : j = k
      · rw [if_pos e, if_pos e]; exact hy
      · rw [if_neg e, if_neg e]; exact h1
theorem ROks.app {K : PySem.W.Frag} {H : Hp} {θ : Nat → Addr} : ∀ {xs ys : List V} {rs ts : List R}, ROks K H θ xs rs → ROks K H θ ys ts → ROks K H θ (xs ++ ys) (rs ++ ts)
  | _, _, [], _, h, g => by cases h; exact g
  | _, _, r :: rs, _, h, g => by
    cases h with
    | cons h1 h2 => exact .cons h1 (h2.app g)
theorem putR_ok {K : PySem.W.Frag} {H : Hp} {θ : Nat → Addr} {k : κ} {y : V} {t : R} (hy : ROk K H θ y t) {ks : List κ} {xs : List V} {rs : List R} (h : ROks K H θ xs rs) : ROks K H θ (putVal ks xs k y) (putVal ks rs k t) := by
  unfold putVal
  by_cases e : k ∈ ks
  · rw [if_pos e, if_pos e]; exact zipR hy h
  · rw [if_neg e, if_neg e]; exact h.app (.cons hy .nil)
end
theorem ROks.length {K : PySem.W.Frag} {H : Hp} {θ : Nat → Addr} : ∀ {vs : List V} {rs : List R}, ROks K H θ vs rs → vs.length = rs.length
  | _, [], h => by cases h; rfl
  | _, r :: rs, h => by
    cases h with
    | cons h1 h2 => exact congrArg Nat.succ h2.length
theorem lookup_zip (f : Str) : ∀ (fs : List Str) (xs : List V), (fs.zip xs).lookup f = atK fs xs f
  | [], xs => by cases xs <;> rfl
  | g :: fs, [] => rfl
  | g :: fs, x :: xs => by
    rw [List.zip_cons_cons, atK, List.lookup_cons, lookup_zip f fs xs]
    by_cases h : g = f
    · subst h
      simp
    · have h' : ¬ f = g := fun z => h z.symm
      rw [if_neg h, beq_false_of_ne h']
theorem putF_new (f : Str) (y : V) : ∀ (fs : List Str) (xs : List V), fs.length = xs.length → f ∉ fs → putF f y (fs.zip xs) = (fs ++ [f]).zip (xs ++ [y])
  | [], [], _, _ => rfl
  | g :: fs, x :: xs, h, n => by
    have e : ¬ g = f := fun z => n (z ▸ List.mem_cons_self ..)
    rw [List.zip_cons_cons, putF, if_neg e, putF_new f y fs xs (Nat.succ.inj h) (fun z => n (List.mem_cons_of_mem _ z))]
    rfl
  | [], _ :: _, h, _ => by cases h
  | _ :: _, [], h, _ => by cases h

/-! ### dicts, read -/
@[simp] def keyD : D → Option Key
  | .int i => some (.inl i)
  | .str x => some (.inr x)
  | _ => none
theorem keyD_tv {K : PySem.W.Frag} {hid O : AS} {H : Hp} {v : V} {d : D} {k : Key} (rv : Tv K hid O H v d) (h : keyD d = some k) : v = kV k := by
  unfold keyD at h
  split at h
  · cases h; rw [rv.int]; rfl
  · cases h; rw [rv.str]; rfl
  · cases h
section
variable {X : Cx} {e a b : Expr} {ma mb : En → Option D} {pos : Pos} {A : Around} {kk : Nat}
theorem hu_of {A : Around} (hr : Room kk A) (hA : X.A = A) : X.A.units + 1 < cLine := by
  rw [hA]
  have := hr.units
  omega
@[simp] def ixD2 : D → D → Option D
  | .dct ks ds, y => (keyD y).bind (atK ks ds)
  | x, y => ixD x y
/-- e[i] of a list, a tuple, a text, a dict -/
theorem de_ix2 (hr : Room kk A) (ha : DT X a ma) (hb : DT X b mb) (hA : X.A = A := by rfl) (hs : PlainIx b := by exact fun _ _ => rfl) (hs2 : NoSl b := by exact fun _ _ => rfl) : DE X (.Subscript a b pos) (mBin ixD2 ma mb) :=
  ⟨_, PE.or (pe_dget (hu_of hr hA) ha.pe hb.pe hs2) (pe_ix ix_seq ha.pe hb.pe hs), fun hid O B H σ E d re hm Q q => by
  obtain ⟨x, h1, hm⟩ := bind_some hm
  obtain ⟨y, h2, hm⟩ := bind_some hm
  unfold ixD2 at hm
  split at hm
  · obtain ⟨k, h3, h4⟩ := bind_some hm
    refine .inl (ha.si hid O B H σ E _ re h1 _ fun v H1 e1 r1 => ?_)
    refine hb.si hid O B H1 σ E y (re.grow e1) h2 _ fun u H2 e2 r2 => ?_
    obtain ⟨p, xs, rfl, g1, g2, g3⟩ := (r1.mono e2).dct
    obtain rfl := keyD_tv r2 h3
    obtain ⟨w, g4, g5⟩ := atK_rp g3 h4
    refine ⟨p, w, rfl, ?_, q w H2 (e1.trans e2) g5⟩
    have := DGet.k (k := k) g1
    rwa [valV_zip, g4] at this
  · exact .inr (st_bin od_ix ha.si hb.si hid O B H σ E d re (by show (ma E).bind _ = _; rw [h1]; show (mb E).bind _ = _; rw [h2]; exact hm) Q q)⟩
@[simp] def dinD : D → D → Option Bool
  | y, .dct ks _ => (keyD y).map fun k => memK k ks
  | _, _ => none
theorem st_din {K : PySem.W.Frag} {ta tb : TE} {ma mb : En → Option D} (ha : ST K ta ma) (hb : ST K tb mb) {hid O : AS} {B H : Hp} {σ : L2.St} {E : En} {c : Bool} (re : RE K hid O B H σ E) {x y : D} (h1 : ma E = some x) (h2 : mb E = some y) (h3 : dinD x y = some c) {Q : Bool → Hp → Prop} (q : ∀ H', Ex H H' → Q c H') :
    ta σ H fun y H1 => tb σ H1 fun x H2 => ∃ a o, x = .ref a ∧ DGet H2 a y o ∧ Q o.isSome H2 := by
  unfold dinD at h3
  split at h3
  · obtain ⟨k, h4, rfl⟩ := map_some h3
    refine ha hid O B H σ E _ re h1 _ fun v H1 e1 r1 => ?_
    refine hb hid O B H1 σ E _ (re.grow e1) h2 _ fun u H2 e2 r2 => ?_
    obtain ⟨p, xs, rfl, g1, g2, g3⟩ := r2.dct
    obtain rfl := keyD_tv r1 h4
    refine ⟨p, _, rfl, DGet.k g1, ?_⟩
    rw [valV_zip, atK_isSome g2]
    exact q H2 (e1.trans e2)
  · cases h3
@[simp] def inD2 : D → D → Option D
  | y, .dct ks ds => (dinD y (.dct ks ds)).map .bl
  | x, y => inD x y
@[simp] def notInD2 : D → D → Option D
  | y, .dct ks ds => (dinD y (.dct ks ds)).map fun c => .bl (!c)
  | x, y => notInD x y
theorem de_in2 (hr : Room kk A) (ha : DT X a ma) (hb : DT X b mb) (hA : X.A = A := by rfl) (hm : behindInMarks .In b = false := by first | exact nomark _ | with_unfolding_all rfl) : DE X (.Compare a [.In] [b] pos) (mBin inD2 ma mb) :=
  ⟨_, PE.or (pe_cmp (pc_din (hu_of hr hA) ha.pe hb.pe) hm) (pe_cmpR op_in_seq ha.pe hb.pe hm), fun hid O B H σ E d re hm Q q => by
  obtain ⟨x, h1, hm⟩ := bind_some hm
  obtain ⟨y, h2, hm⟩ := bind_some hm
  unfold inD2 at hm
  split at hm
  · obtain ⟨c, h3, rfl⟩ := map_some hm
    exact .inl (st_din ha.si hb.si re h1 h2 h3 (Q := fun c H => Q (.bl c) H) fun H' e => q _ H' e (.bl c))
  · exact .inr (st_bin od_in ha.si hb.si hid O B H σ E d re (by show (ma E).bind _ = _; rw [h1]; show (mb E).bind _ = _; rw [h2]; exact hm) Q q)⟩
theorem de_notIn2 (hr : Room kk A) (ha : DT X a ma) (hb : DT X b mb) (hA : X.A = A := by rfl) (hm : behindInMarks .NotIn b = false := by first | exact nomark _ | with_unfolding_all rfl) : DE X (.Compare a [.NotIn] [b] pos) (mBin notInD2 ma mb) :=
  ⟨_, PE.or (pe_cmp (pc_dnotin (hu_of hr hA) ha.pe hb.pe) hm) (pe_cmpR op_notIn_seq ha.pe hb.pe hm), fun hid O B H σ E d re hm Q q => by
  obtain ⟨x, h1, hm⟩ := bind_some hm
  obtain ⟨y, h2, hm⟩ := bind_some hm
  unfold notInD2 at hm
  split at hm
  · obtain ⟨c, h3, rfl⟩ := map_some hm
    exact .inl (st_din ha.si hb.si re h1 h2 h3 (Q := fun c H => Q (.bl (!c)) H) fun H' e => q _ H' e (.bl _))
  · exact .inr (st_bin od_notIn ha.si hb.si hid O B H σ E d re (by show (ma E).bind _ = _; rw [h1]; show (mb E).bind _ = _; rw [h2]; exact hm) Q q)⟩
theorem db_in2 (hr : Room kk A) (ha : DT X a ma) (hb : DT X b mb) (hA : X.A = A := by rfl) (hm : behindInMarks .In b = false := by first | exact nomark _ | with_unfolding_all rfl) : DB X (.Compare a [.In] [b] pos) (fun E => (mBin inD2 ma mb E).bind blOf) :=
  ⟨_, PT.or (pt_cmp (pc_din (hu_of hr hA) ha.pe hb.pe) hm) (pt_cmpR op_in_seq ha.pe hb.pe hm), fun hid O B H σ E d re hm Q q => by
  obtain ⟨z, hm, h0⟩ := bind_some hm
  obtain ⟨x, h1, hm⟩ := bind_some hm
  obtain ⟨y, h2, hm⟩ := bind_some hm
  cases blOf_some h0
  unfold inD2 at hm
  split at hm
  · obtain ⟨c, h3, h4⟩ := map_some hm
    cases h4
    exact .inl (st_din ha.si hb.si re h1 h2 h3 (Q := fun c H => ∃ b, V.bl c = .bl b ∧ Q b H) fun H' e => ⟨_, rfl, q H' e⟩)
  · exact .inr (st_bin od_in ha.si hb.si hid O B H σ E _ re (by show (ma E).bind _ = _; rw [h1]; show (mb E).bind _ = _; rw [h2]; exact hm) _ fun v H1 e1 r1 => by
      cases r1
      exact ⟨_, rfl, q H1 e1⟩)⟩
theorem db_notIn2 (hr : Room kk A) (ha : DT X a ma) (hb : DT X b mb) (hA : X.A = A := by rfl) (hm : behindInMarks .NotIn b = false := by first | exact nomark _ | with_unfolding_all rfl) : DB X (.Compare a [.NotIn] [b] pos) (fun E => (mBin notInD2 ma mb E).bind blOf) :=
  ⟨_, PT.or (pt_cmp (pc_dnotin (hu_of hr hA) ha.pe hb.pe) hm) (pt_cmpR op_notIn_seq ha.pe hb.pe hm), fun hid O B H σ E d re hm Q q => by
  obtain ⟨z, hm, h0⟩ := bind_some hm
  obtain ⟨x, h1, hm⟩ := bind_some hm
  obtain ⟨y, h2, hm⟩ := bind_some hm
  cases blOf_some h0
  unfold notInD2 at hm
  split at hm
  · obtain ⟨c, h3, h4⟩ := map_some hm
    cases h4
    exact .inl (st_din ha.si hb.si re h1 h2 h3 (Q := fun c H => ∃ b, V.bl (!c) = .bl b ∧ Q b H) fun H' e => ⟨_, rfl, q H' e⟩)
  · exact .inr (st_bin od_notIn ha.si hb.si hid O B H σ E _ re (by show (ma E).bind _ = _; rw [h1]; show (mb E).bind _ = _; rw [h2]; exact hm) _ fun v H1 e1 r1 => by
      cases r1
      exact ⟨_, rfl, q H1 e1⟩)⟩
/-! ### fields, read -/
def fldD (x f : Str) : D → Option D
  | .obj y fs ds => if y = x then atK fs ds f else none
  | _ => none
theorem de_fld (x : Str) {f : Str} (c : Cls X.K (He.ga X.K x)) (n : NoAttr X.K (He.ga X.K x) f) (ha : DT X a ma) (hb : attributeBase a f X.env (eval a X.env) = eval a X.env := by rfl) : DE X (.Attribute a f pos) (mUn (fldD x f) ma) :=
  ⟨_, pe_fld ha.pe hb, fun hid O B H σ E d re hm Q q => by
  obtain ⟨y, h1, h2⟩ := bind_some hm
  clear hm
  unfold fldD at h2
  split at h2
  · rename_i z fs ds
    by_cases hz : z = x
    · rw [if_pos hz] at h2
      subst hz
      refine ha.si hid O B H σ E _ re h1 _ fun v H1 e1 r1 => ?_
      obtain ⟨p, dx, xs, rfl, g1, g2, g3⟩ := r1.obj
      obtain ⟨w, g4, g5⟩ := atK_rp g3 h2
      exact ⟨p, _, dx, _, w, rfl, g1, c, n, by rw [lookup_zip]; exact g4, q w H1 e1 g5⟩
    · rw [if_neg hz] at h2
      cases h2
  · cases h2⟩
end
end Sx

set_option Elab.async false
set_option linter.all false
set_option maxRecDepth 100000
set_option maxHeartbeats 1000000
namespace Sx
open PySem PySem.Spec PyProof.Rows L2
open Evl (Ex)

theorem DS.cases {X : Cx} {st : Stmt} {m1 m2 m : En → Option Out} (h1 : DS X st m1) (h2 : DS X st m2) (c : ∀ E o, m E = some o → m1 E = some o ∨ m2 E = some o) : DS X st m :=
  ⟨_, PS.or h1.ps h2.ps, fun hid O B H σ E o Dn r hm k => (c E o hm).elim (fun z => .inl (h1.si hid O B H σ E o Dn r z k)) fun z => .inr (h2.si hid O B H σ E o Dn r z k)⟩
section
variable {K : PySem.W.Frag} {hid O : AS} {B H H' : Hp} {σ : L2.St} {E : En} {n : Nat}
theorem vis1 {p : Addr} {H : Hp} : Ex (rem (orS hid (orS O (· = p))) H) (rem (orS hid (orS O (· ∈ [p]))) H) := rem_sub fun a z => by
  rcases z with z | z | z
  · exact .inl z
  · exact .inr (.inl z)
  · exact .inr (.inr (List.mem_singleton.mp z))
/-- a new node with closed contents, named by slot i -/
theorem RE.mkN (r : RE K hid O B H σ E) {p : Addr} {x : Nd} (i : Nat) (hp : H p = none) (e : Ex H H') (hx : IsM H' p) (no : noE n E = true) (ok : ∀ θ, NdOk K H' (rem (orS hid (orS O (· = p))) H') θ p [] x) :
    ∃ O', RE K hid O' B H' (σ.set i (some (.ref p))) ((E.set n (.nd x)).set i (.rt (.rf n))) := by
  obtain ⟨θ, ω, N, z, r2⟩ := r.newN (p := p) (w := []) (x := x) (n := n) (fun a ha => by rw [List.mem_singleton.mp ha]; exact hp) e (fun a ha => by rw [List.mem_singleton.mp ha]; exact hx) no fun θ => (ok θ).mono (fun a _ o q => q) vis1
  refine ⟨_, r2.putR N i (t := .rf n) ?_⟩
  rw [← z]
  exact .rf n
end

/-! ### dicts, made and changed -/
section
variable {X : Cx} {x : Str} {e kx vx : Expr} {m mk mv : En → Option D} {pos pos' dpos p : Pos} {A : Around} {kk : Nat}
@[simp] def mDNew0 (i n : Nat) : En → Option Out := fun E => if noE n E = true then some (.nx ((E.set n (.nd (.dct [] []))).set i (.rt (.rf n)))) else none
theorem ds_dnew0 (i n : Nat) (hN : X.N.Nodup) (hi : X.N[i]? = some x := by rfl) (hx : Loc X.env.scope x := by first | exact Or.inl rfl | exact Or.inr rfl) (hs : swapsWith (.Dict [] [] dpos) (some (.Name x pos')) pos.line X.env = pure false := by rfl)
    (hf : X.fn x = true ∨ X.env.scope.names.lookup x = some .local := by first | exact .inl rfl | exact .inr rfl) : DS X (.Assign [.Name x pos'] (.Dict [] [] dpos) pos) (mDNew0 i n) := ⟨_, ps_set hN hi hx pe_dnewK hs hf, fun hid O B H σ E o Dn r hm k => by
  obtain ⟨no, rfl⟩ := ite_some hm
  refine fun p hp => ?_
  obtain ⟨O', r'⟩ := r.mkN (H' := upd H p (.dK [])) (x := .dct [] []) i hp (Ex.new hp) ⟨_, upd_same, trivial⟩ no fun θ => ⟨[], upd_same, rfl, .nil⟩
  exact k O' _ _ r'⟩
@[simp] def mDNew1 (i n : Nat) (mk mv : En → Option D) : En → Option Out := fun E => (mk E).bind fun a => (mv E).bind fun d => (keyD a).bind fun κ => if noE n E = true then some (.nx ((E.set n (.nd (.dct [κ] [.fz d]))).set i (.rt (.rf n)))) else none
theorem ds_dnew1 (i n : Nat) (hN : X.N.Nodup) (hk : DE X kx mk) (hv : DE X vx mv) (hi : X.N[i]? = some x := by rfl) (hx : Loc X.env.scope x := by first | exact Or.inl rfl | exact Or.inr rfl) (hs : swapsWith (.Dict [some kx] [vx] dpos) (some (.Name x pos')) pos.line X.env = pure false := by rfl)
    (hf : X.fn x = true ∨ X.env.scope.names.lookup x = some .local := by first | exact .inl rfl | exact .inr rfl) : DS X (.Assign [.Name x pos'] (.Dict [some kx] [vx] dpos) pos) (mDNew1 i n mk mv) := ⟨_, ps_set hN hi hx (pe_disp (pps_cons hk.pe hv.pe pps_nil) rfl rfl (by simp) (by simp)) hs hf, fun hid O B H σ E o Dn r hm k => by
  obtain ⟨a, h1, hm⟩ := bind_some hm
  obtain ⟨d, h2, hm⟩ := bind_some hm
  obtain ⟨κ, h3, hm⟩ := bind_some hm
  obtain ⟨no, rfl⟩ := ite_some hm
  refine fun p hp => ?_
  have r1 := r.addO' hp (Ex.new hp) ⟨_, upd_same, trivial⟩ (H' := upd H p (.dK []))
  refine hk.si _ _ _ _ _ _ a r1 h1 _ fun y H1 e1 ry => ?_
  refine hv.si _ _ _ _ _ _ d (r1.grow e1) h2 _ fun v H2 e2 rv => ?_
  have e12 := e1.trans e2
  have hy : y = kV κ := keyD_tv (.inl (ry.mono (rem_mono e2) _)) h3
  subst hy
  refine ⟨e12 p _ upd_same, [(κ, v)], rfl, by simp, ?_⟩
  have eH : Ex H (upd H2 p (.dK [(κ, v)])) := Evl.Ex.mut ((Ex.new hp).trans e12) hp
  obtain ⟨O', r'⟩ := r.mkN (H' := upd H2 p (.dK [(κ, v)])) (x := .dct [κ] [.fz d]) i hp eH ⟨_, upd_same, trivial⟩ no fun θ => ⟨[v], upd_same, rfl, .cons (.fz (rv.mono (rem_upd (.inr (.inr rfl))) _)) .nil⟩
  exact k O' _ _ r'⟩
@[simp] def mDPut (i : Nat) (m mk : En → Option D) : En → Option Out := fun E => (m E).bind fun d => (mk E).bind fun a => (keyD a).bind fun κ => match E[i]? with
  | some (.rt (.rf n)) => (match E[n]? with
    | some (.nd (.dct ks rs)) => if rs.length < 100000 then some (.nx (E.set n (.nd (.dct (putKey ks κ) (putVal ks rs κ (.fz d)))))) else none
    | _ => none)
  | _ => none
theorem ds_dput (i : Nat) {spos : Pos} (hr : Room kk A) (he : DE X e m) (hk : DE X kx mk) (hA : X.A = A := by rfl) (hN : X.N[i]? = some x := by rfl) (hv : Vis X.env.scope x := by first | exact Or.inl rfl | exact Or.inr (Or.inl rfl) | exact Or.inr (Or.inr rfl)) (hd : (x == ("__debug__" : Str)) = false := by decide) (hcd : (x == ("__classdict__" : Str)) = false := by decide)
    (hs : swapsWith e (some (.Subscript (.Name x p) kx spos)) pos.line X.env = pure false := by rfl) : DS X (.Assign [.Subscript (.Name x p) kx spos] e pos) (mDPut i m mk) :=
  ⟨_, ps_dput (hu_of hr hA) (pe_var hN hv hd hcd) hk.pe he.pe hs, fun hid O B H σ E o Dn r hm k => by
  obtain ⟨d, h0, hm⟩ := bind_some hm
  obtain ⟨a, h1, hm⟩ := bind_some hm
  obtain ⟨κ, h2, hm⟩ := bind_some hm
  split at hm
  · rename_i n hi
    split at hm
    · rename_i ks rs hn
      obtain ⟨hl, rfl⟩ := ite_some hm
      refine he.si hid O B H σ E d r h0 _ fun v H1 e1 r1 => ?_
      have R1 := r.grow e1
      obtain ⟨θ, ω, N⟩ := R1.nod
      obtain ⟨w, g1, g2⟩ := N.rt i _ hi
      refine ⟨w, g1, ?_⟩
      refine hk.si hid O B H1 σ E a R1 h1 _ fun y H2 e2 r2 => ?_
      have R2 := R1.grow e2
      have N2 : NodW X.K hid O H2 σ E θ ω := N.move (fun _ _ h => h) (fun _ _ h => ⟨h, rfl⟩) (fun n x h a ha => ⟨(N.nd n x h).1 a ha, fun o q => e2 _ o q⟩) (rem_mono e2) N.dis
      cases g2
      obtain ⟨xs, k1, k2, k3⟩ := (N2.nd n _ hn).2
      have hy := keyD_tv (.inl r2) h2
      subst hy
      refine ⟨θ n, _, rfl, DPut.k k1 ?_, ?_⟩
      · rw [List.length_zip, k2, Nat.min_self, k3.length]
        exact size_lt hl
      · rw [putK_zip _ _ _ _ k2]
        refine k O σ _ (R2.chgN N2 hn (List.mem_cons_self ..) trivial ⟨_, upd_same, put_len _ _ _ _ k2, ?_⟩)
        have vis : Ex (rem (orS hid O) H2) (rem (orS hid O) (upd H2 (θ n) (.dK ((putKey ks κ).zip (putVal ks xs κ v))))) := rem_upd (.inr ((N2.nd n _ hn).1 _ (List.mem_cons_self ..)))
        exact putR_ok (.fz ((r1.mono (rem_mono e2) _).mono vis _)) (k3.mono vis _)
    · cases hm
  · cases hm⟩
@[simp] def mSub2 (i : Nat) (m mk : En → Option D) : En → Option Out := fun E => match E[i]? with
  | some (.rt _) => mDPut i m mk E
  | _ => mSub i m mk E
/-! ### fields, stored -/
@[simp] def mFld (i : Nat) (c f : Str) (m : En → Option D) : En → Option Out := fun E => (m E).bind fun d => match E[i]? with
  | some (.rt (.rf n)) => (match E[n]? with
    | some (.nd (.obj q y fs rs)) => if y = c ∧ f ∉ fs ∧ fs.length < 900 then some (.nx (E.set n (.nd (.obj q y (fs ++ [f]) (rs ++ [.fz d]))))) else none
    | _ => none)
  | _ => none
theorem ds_fld (i : Nat) (c : Str) {f : Str} {spos : Pos} (hc : Cls X.K (He.ga X.K c)) (ha : NoAttr X.K (He.ga X.K c) f) (he : DE X e m) (hN : X.N[i]? = some x := by rfl) (hv : Vis X.env.scope x := by first | exact Or.inl rfl | exact Or.inr (Or.inl rfl) | exact Or.inr (Or.inr rfl)) (hd : (x == ("__debug__" : Str)) = false := by decide) (hcd : (x == ("__classdict__" : Str)) = false := by decide)
    (hs : swapsWith e (some (.Attribute (.Name x p) f spos)) pos.line X.env = pure false := by rfl) : DS X (.Assign [.Attribute (.Name x p) f spos] e pos) (mFld i c f m) :=
  ⟨_, ps_fld (pe_var hN hv hd hcd) he.pe hs, fun hid O B H σ E o Dn r hm k => by
  obtain ⟨d, h0, hm⟩ := bind_some hm
  split at hm
  · rename_i n hi
    split at hm
    · rename_i q y fs rs hn
      obtain ⟨⟨hy, hf, hl⟩, rfl⟩ := ite_some hm
      subst hy
      refine he.si hid O B H σ E d r h0 _ fun v H1 e1 r1 => ?_
      have R1 := r.grow e1
      obtain ⟨θ, ω, N⟩ := R1.nod
      obtain ⟨w, g1, g2⟩ := N.rt i _ hi
      refine ⟨w, g1, ?_⟩
      cases g2
      obtain ⟨dx, xs, k0, k1, k2, k3⟩ := (N.nd n _ hn).2
      refine ⟨θ n, _, dx, _, rfl, k1, hc, ha, ?_, ?_⟩
      · rw [List.length_zip, k2, Nat.min_self, ← k2]
        omega
      · rw [putF_new _ _ _ _ k2 hf]
        have vis : Ex (rem (orS hid O) H1) (rem (orS hid O) (upd H1 (θ n) (.ins (He.ga X.K y) dx ((fs ++ [f]).zip (xs ++ [v]))))) := rem_upd (.inr ((N.nd n _ hn).1 _ (List.mem_cons_self ..)))
        exact k O σ _ (R1.chgN N hn (List.mem_cons_self ..) trivial ⟨dx, _, k0, upd_same, by rw [List.length_append, List.length_append, k2]; rfl, (k3.mono vis _).app (.cons (.fz (r1.mono vis _)) .nil)⟩)
    · cases hm
  · cases hm⟩
/-! ### lists of lists -/
theorem LLs.upd {K : PySem.W.Frag} {Hv Hv' : Hp} {H : Hp} {q : Addr} {xs : List V} {es : List D} (ev : Ex Hv Hv') (hx : RpL K Hv' xs es) : ∀ {w : List Addr} {dss : List (List D)} {u : Nat}, LLs K H Hv w dss → w.Nodup → w[u]? = some q → LLs K (upd H q (.lst xs)) Hv' w (dss.set u es)
  | [], [], u, _, _, e => by simp at e
  | a :: w, ds :: dss, 0, h, nd, e => by
    have e : a = q := by simpa using e
    subst e
    obtain ⟨n1, n2⟩ := List.nodup_cons.mp nd
    exact ⟨⟨xs, upd_same, hx⟩, h.2.mono (fun b hb o z => by rw [upd_ne (fun y => n1 (by rw [← y]; exact hb))]; exact z) ev⟩
  | a :: w, ds :: dss, u + 1, h, nd, e => by
    obtain ⟨n1, n2⟩ := List.nodup_cons.mp nd
    have e' : w[u]? = some q := by simpa using e
    obtain ⟨ys, y1, y2⟩ := h.1
    exact ⟨⟨ys, by rw [upd_ne (fun y => n1 (by rw [y]; exact List.mem_of_getElem? e'))]; exact y1, y2.mono ev _⟩, LLs.upd ev hx h.2 n2 e'⟩
  | [], _ :: _, _, h, _, _ => h.elim
  | _ :: _, [], _, h, _, _ => h.elim
theorem LLs.length {K : PySem.W.Frag} {H Hv : Hp} : ∀ {w : List Addr} {dss : List (List D)}, LLs K H Hv w dss → w.length = dss.length
  | [], [], _ => rfl
  | a :: w, ds :: dss, h => congrArg Nat.succ (LLs.length h.2)
  | [], _ :: _, h => h.elim
  | _ :: _, [], h => h.elim
theorem LLs.at {K : PySem.W.Frag} {H Hv : Hp} : ∀ {w : List Addr} {dss : List (List D)} {u : Nat} {ds : List D}, LLs K H Hv w dss → dss[u]? = some ds → ∃ q xs, w[u]? = some q ∧ H q = some (.lst xs) ∧ RpL K Hv xs ds
  | [], [], u, _, _, e => by simp at e
  | a :: w, ds :: dss, 0, ds', h, e => by
    have e : ds = ds' := by simpa using e
    subst e
    obtain ⟨xs, h1, h2⟩ := h.1
    exact ⟨a, xs, rfl, h1, h2⟩
  | a :: w, ds :: dss, u + 1, ds', h, e => by
    obtain ⟨q, xs, h1, h2, h3⟩ := LLs.at h.2 (u := u) (ds := ds') (by simpa using e)
    exact ⟨q, xs, by simpa using h1, h2, h3⟩
  | [], _ :: _, _, _, h, _ => h.elim
  | _ :: _, [], _, _, h, _ => h.elim
@[simp] def mLLApp (i : Nat) (mk m : En → Option D) : En → Option Out := fun E => (mk E).bind fun a => (m E).bind fun d => match a with
  | .int j => (match E[i]? with
    | some (.rt (.rf n)) => (match E[n]? with
      | some (.nd (.ll dss)) => (ixN dss.length j).bind fun u => (dss[u]?).bind fun ds => if ds.length < 100000 then some (.nx (E.set n (.nd (.ll (dss.set u (ds ++ [d])))))) else none
      | _ => none)
    | _ => none)
  | _ => none
theorem ds_llapp (i : Nat) {cpos apos spos : Pos} (hk : DE X kx mk) (he : DE X e m) (hN : X.N[i]? = some x := by rfl) (hv : Vis X.env.scope x := by first | exact Or.inl rfl | exact Or.inr (Or.inl rfl) | exact Or.inr (Or.inr rfl)) (hd : (x == ("__debug__" : Str)) = false := by decide) (hcd : (x == ("__classdict__" : Str)) = false := by decide)
    (hix : PlainIx kx := by exact fun _ _ => rfl)
    (hbase : attributeBase (.Subscript (.Name x p) kx spos) "append" X.env (eval (.Subscript (.Name x p) kx spos) X.env) = eval (.Subscript (.Name x p) kx spos) X.env := by rfl)
    (hfew : ((backTo cpos (starEach [e] X.env)).all (fun x => !x.1) && (backToKw cpos (keywordEach [] X.env)).all (fun x => x.1.isSome)
      && decide ([e].length + ([] : List Keyword).length + (if ([] : List Keyword).isEmpty then 0 else 1) < 30)) = true := by rfl)
    (hline : (apos.endLine == cpos.line) = true := by rfl) (hs : starEach [e] X.env = (false, eval e X.env) :: starEach [] X.env := by rfl) (hplain : (backTo cpos (starEach [] X.env)).any (·.1) = false := by rfl)
    (hsw : swapsWith (.Call (.Attribute (.Subscript (.Name x p) kx spos) "append" apos) [e] [] cpos) none pos.line X.env = pure false := by rfl) :
    DS X (.Expr (.Call (.Attribute (.Subscript (.Name x p) kx spos) "append" apos) [e] [] cpos) pos) (mLLApp i mk m) :=
  ⟨_, ps_expr (pe_bm PySem.F.plainAttrs_list PySem.F.slot_list_append PySem.F.type_list_append mt_append (pe_ix ix_seq (pe_var hN hv hd hcd) hk.pe hix) (pa_cons he.pe pa_nil hs) hbase hfew hline hs hplain) hsw, fun hid O B H σ E o Dn r hm k => by
  obtain ⟨a, h0, hm⟩ := bind_some hm
  obtain ⟨d, h1, hm⟩ := bind_some hm
  split at hm
  · skip
    split at hm
    · rename_i n hi
      split at hm
      · rename_i dss hn
        obtain ⟨u, h2, hm⟩ := bind_some hm
        obtain ⟨ds, h3, hm⟩ := bind_some hm
        obtain ⟨h4, rfl⟩ := ite_some hm
        obtain ⟨θ, ω, N⟩ := r.nod
        obtain ⟨w, g1, g2⟩ := N.rt i _ hi
        cases g2
        refine ⟨.ref (θ n), g1, ?_⟩
        refine hk.si hid O B H σ E _ r h0 _ fun y H1 e1 r1 => ?_
        cases r1
        have N1 : NodW X.K hid O H1 σ E θ ω := N.move (fun _ _ h => h) (fun _ _ h => ⟨h, rfl⟩) (fun n x h a ha => ⟨(N.nd n x h).1 a ha, fun o q => e1 _ o q⟩) (rem_mono e1) N.dis
        obtain ⟨k1, k2, k3, k4⟩ := (N1.nd n _ hn).2
        obtain ⟨q, xs, q1, q2, q3⟩ := k4.at h3
        refine .inl ⟨θ n, _, _, .ref q, rfl, rfl, .inl (.inl k1), ?_, ?_⟩
        · unfold atI
          rw [List.length_map, k4.length, h2]
          show ((ω n).map V.ref)[u]? = _
          rw [List.getElem?_map, q1]
          rfl
        · refine ⟨.inl ⟨rfl, xs, .inl (.inl q2)⟩, ?_⟩
          have R1 := r.grow e1
          refine he.si hid O B H1 σ E d R1 h1 _ fun v H2 e2 r2 => ?_
          have N2 : NodW X.K hid O H2 σ E θ ω := N1.move (fun _ _ h => h) (fun _ _ h => ⟨h, rfl⟩) (fun n x h a ha => ⟨(N1.nd n x h).1 a ha, fun o q => e2 _ o q⟩) (rem_mono e2) N1.dis
          refine ⟨q, xs, v, rfl, rfl, e2 q _ q2, by rw [q3.length]; exact size_lt h4, ?_⟩
          have hq : q ∈ ω n := List.mem_of_getElem? q1
          have vis : Ex (rem (orS hid O) H2) (rem (orS hid O) (upd H2 q (.lst (xs ++ [v])))) := rem_upd (.inr ((N2.nd n _ hn).1 _ (List.mem_cons_of_mem _ hq)))
          obtain ⟨k1, k2, k3, k4⟩ := (N2.nd n _ hn).2
          refine k O σ _ ((R1.grow e2).chgN N2 hn (List.mem_cons_of_mem _ hq) trivial ⟨by rw [upd_ne (fun z => k3 (by rw [z]; exact hq))]; exact k1, k2, k3, k4.upd vis ?_ k2 q1⟩)
          exact ((q3.mono (rem_mono e2) _).mono vis _).app (.one (r2.mono vis _))
      · cases hm
    · cases hm
  · cases hm⟩
end
end Sx

set_option Elab.async false
set_option linter.all false
set_option maxRecDepth 100000
set_option maxHeartbeats 1000000
namespace Sx
open PySem PySem.Spec PyProof.Rows L2
open Evl (Ex)

/-! ### [[] for x in ..] -/
@[simp] def mSetLL (i n : Nat) (mi : En → Option (List D)) : En → Option Out := fun E => (mi E).bind fun ds => if noE n E = true ∧ ds.length ≤ 100000 then some (.nx ((E.set n (.nd (.ll (List.replicate ds.length [])))).set i (.rt (.rf n)))) else none
theorem LLs.empty {K : PySem.W.Frag} {H Hv : Hp} : ∀ {qs : List Addr}, (∀ q ∈ qs, H q = some (.lst [])) → LLs K H Hv qs (List.replicate qs.length [])
  | [], _ => trivial
  | q :: qs, h => ⟨⟨[], h q (List.mem_cons_self ..), .nil⟩, LLs.empty fun a ha => h a (List.mem_cons_of_mem _ ha)⟩
theorem ss_setLL {K : PySem.W.Frag} (i n j : Nat) {wi : TI} {g : TG} {vs js : List Nat} {mi : En → Option (List D)} (hi : SIT K wi mi) (hg : SG K g js (gM j)) (hjs : ∀ j ∈ js, j ∈ vs) : SS K (tAsg (tLc wi g tYes (tLst tNil) vs) (gName i)) (mSetLL i n mi) := fun hid O B H σ E o Dn r hm k => by
  obtain ⟨ds, h1, hm⟩ := bind_some hm
  obtain ⟨⟨no, hz⟩, rfl⟩ := ite_some hm
  refine hi hid O B H σ E ds r h1 _ fun J H2 G Y e2 w hG hY Dl hD => ?_
  have r2 := r.grow e2
  refine lc_it w (fun i H' => Ex H2 H' ∧ ∃ qs : List Addr, H' Dl = some (.lst (qs.map V.ref)) ∧ (Dl :: qs).Nodup ∧ (∀ q ∈ qs, H2 q = none ∧ H' q = some (.lst [])) ∧ qs.length = i)
    ⟨Ex.new hD, [], upd_same, by simp, fun q h => (nomatch h), rfl⟩ (fun i H' _ p => hG H' p.1) (fun i x H3 H3' hi p y => ?_) (fun H' p => ?_)
  · obtain ⟨e3, qs, g1, g2, g3, g4⟩ := p
    have rA : RE K hid (orS O (· = Dl)) B H3 σ E := r2.addO hD e3 g1
    have assoc2 : ∀ a, orS hid (orS O (· = Dl)) a → orS (orS hid O) (· = Dl) a := fun a z => by
      rcases z with z | z | z
      · exact .inl (.inl z)
      · exact .inl (.inr z)
      · exact .inr z
    have exv : Ex (rem (orS hid O) H2) (rem (orS hid (orS O (· = Dl))) H3) := fun a o z => rem_sub assoc2 _ _ (rem_new hD e3 a o z)
    obtain ⟨e4, rx⟩ := hY i H3 x H3' (orS hid (orS O (· = Dl))) ds[i] y (List.getElem?_eq_getElem hi) exv (fun p hp => rA.fresh hp)
    have rW := (rA.grow e4).wiped vs
    refine hg hid _ B H3' _ _ x ds[i] _ rW rx rfl _ fun σ2 r3 w3 => ⟨?_, ?_⟩
    · have := w3 vs hjs
      rw [this]
      refine List.ext_getElem? fun j => ?_
      rw [wipe_get, wipe_get, wipe_length]
      by_cases hj : j ∈ vs ∧ j < σ.length
      · rw [if_pos hj, if_pos hj]
      · rw [if_neg hj, if_neg hj]
    · unfold tYes
      dsimp only
      rw [if_pos rfl]
      refine ⟨by show (0 : Nat) ≤ sizeLine; omega, fun p hp => ?_⟩
      have hpD : Dl ≠ p := fun z => by
        rw [← z, e4 Dl _ g1] at hp
        cases hp
      have e5 : Ex H3' (upd H3' p (.lst [])) := Ex.new hp
      have pq : p ∉ qs := fun z => by
        rw [e4 p _ (g3 p z).2] at hp
        cases hp
      refine ⟨qs.map V.ref, e5 Dl _ (e4 Dl _ g1), by rw [List.length_map, g4]; exact size_lt (by omega), Evl.Ex.mut ((e3.trans e4).trans e5) hD, qs ++ [p], ?_, ?_, fun q hq => ?_, by rw [List.length_append, g4]; rfl⟩
      · rw [upd_same, List.map_append]
        rfl
      · obtain ⟨n1, n2⟩ := List.nodup_cons.mp g2
        refine List.nodup_cons.mpr ⟨fun z => ?_, ?_⟩
        · rcases List.mem_append.mp z with z | z
          · exact n1 z
          · exact hpD (List.mem_singleton.mp z)
        · exact List.nodup_append.mpr ⟨n2, by simp, fun a ha b hb z => pq (by rw [← List.mem_singleton.mp hb, ← z]; exact ha)⟩
      · rcases List.mem_append.mp hq with z | z
        · have hqD : q ≠ Dl := fun y => (List.nodup_cons.mp g2).1 (y ▸ z)
          exact ⟨(g3 q z).1, by rw [upd_ne hqD]; exact e5 q _ (e4 q _ (g3 q z).2)⟩
        · have z := List.mem_singleton.mp z
          subst z
          exact ⟨Evl.fresh_back (e3.trans e4) hp, by rw [upd_ne (fun y => hpD y.symm)]; exact upd_same⟩
  · obtain ⟨e3, qs, g1, g2, g3, g4⟩ := p
    obtain ⟨n1, n2⟩ := List.nodup_cons.mp g2
    have e23 := e2.trans e3
    have f1 : ∀ a ∈ Dl :: qs, H a = none := fun a ha => by
      rcases List.mem_cons.mp ha with y | y
      · rw [y]; exact Evl.fresh_back e2 hD
      · exact Evl.fresh_back e2 (g3 a y).1
    have f2 : ∀ a ∈ Dl :: qs, IsM H' a := fun a ha => by
      rcases List.mem_cons.mp ha with y | y
      · rw [y]; exact .lst g1
      · exact .lst (g3 a y).2
    obtain ⟨θ, ω, N, z, r3⟩ := r.newN (H' := H') (p := Dl) (w := qs) (x := .ll (List.replicate ds.length [])) (n := n) f1 e23 f2 no (fun θ => ⟨g1, n2, n1, g4 ▸ LLs.empty fun q hq => (g3 q hq).2⟩)
    refine k _ _ H' (r3.putR N i (t := .rf n) ?_)
    rw [← z]
    exact .rf n
theorem ds_setLL (i n j : Nat) {X : Cx} {y : Str} {py : Pos} {tg iter : Expr} {scope : Scope} {own : List (Str × Nat)} {pos lpos spos : Pos} {js : List Nat} {mi : En → Option (List D)}
    (hc : X.calm = true) (hN : X.N.Nodup) (hi : DIT X tg iter mi) (ok : BlkOk X.N X.env.scope scope own) (hjs : ∀ j ∈ js, j ∈ own.map (·.2))
    (hg : ∀ (s : Shared) (H : Hp) (C : Addr) (cl : List (Str × Addr)) (fp : List Addr), DG (X.blk s H scope (compEnvC scope cl C X.env) fp) tg js (gM j))
    (hsw : swapsWith (.ListComp (.List [] lpos) [⟨tg, iter, [], 0⟩] scope pos) (some (.Name y py)) spos.line X.env = pure true) (hy : X.N[i]? = some y := by rfl) (hyl : X.env.scope.names.lookup y = some .local := by rfl) (hs : ∀ x, foldedSetIterable iter X.env x = pure x := by intro _; rfl) :
    DS X (.Assign [.Name y py] (.ListComp (.List [] lpos) [⟨tg, iter, [], 0⟩] scope pos) spos) (mSetLL i n mi) :=
  ⟨_, ps_setLc (wi := tITq X.K mi) (g := tGq X.K js (gM j)) (tt := tYes) (te := tLst tNil) hc hN hy hyl hsw hi.pi ok (fun s H C cl fp => (hg s H C cl fp).pg) (fun s H C cl fp => pts_nil) (fun s H C cl fp => pe_lst pa_nil) hs,
    ss_setLL i n j hi.si (hg X.s_0 X.H_0 0 [] []).si hjs⟩

/-! ### clear; let go; look -/
section
variable {X : Cx} {x : Str} {e : Expr} {m : En → Option D} {st : Stmt} {mo : En → Option Out} {pos p apos cpos : Pos}
@[simp] def mClear (i : Nat) : En → Option Out := fun E => match E[i]? with
  | some (.ow _) => some (.nx (E.set i (.ow [])))
  | some (.rt (.rf n)) => (match E[n]? with
    | some (.nd (.lst _)) => some (.nx (E.set n (.nd (.lst []))))
    | _ => none)
  | _ => none
theorem ds_clear (i : Nat) (hN : X.N[i]? = some x := by rfl) (hv : Vis X.env.scope x := by first | exact Or.inl rfl | exact Or.inr (Or.inl rfl) | exact Or.inr (Or.inr rfl)) (hd : (x == ("__debug__" : Str)) = false := by decide) (hcd : (x == ("__classdict__" : Str)) = false := by decide)
    (hbase : attributeBase (.Name x p) "clear" X.env (eval (.Name x p) X.env) = eval (.Name x p) X.env := by rfl) (hline : (apos.endLine == cpos.line) = true := by rfl)
    (hsw : swapsWith (.Call (.Attribute (.Name x p) "clear" apos) [] [] cpos) none pos.line X.env = pure false := by rfl) : DS X (.Expr (.Call (.Attribute (.Name x p) "clear" apos) [] [] cpos) pos) (mClear i) :=
  ⟨_, ps_expr (pe_bm0 PySem.F.plainAttrs_list PySem.F.slot_list_clear PySem.F.type_list_clear mt_clear (pe_var hN hv hd hcd) hbase hline) hsw, fun hid O B H σ E o Dn r hm k => by
  unfold mClear at hm
  split at hm
  · rename_i ds hi
    cases hm
    obtain ⟨q, xs, g1, g2, g3, g4⟩ := r.ow i ds hi
    exact ⟨.ref q, g1, .inl ⟨rfl, xs, .inl (.inl g3)⟩, q, xs, rfl, rfl, g3, k O σ _ (r.chg hi g1 .nil)⟩
  · rename_i n hi
    split at hm
    · rename_i rs hn
      cases hm
      obtain ⟨θ, ω, N⟩ := r.nod
      obtain ⟨w, g1, g2⟩ := N.rt i _ hi
      cases g2
      obtain ⟨xs, k1, k2⟩ := (N.nd n _ hn).2
      exact ⟨.ref (θ n), g1, .inl ⟨rfl, xs, .inl (.inl k1)⟩, θ n, xs, rfl, rfl, k1, k O σ _ (r.chgN N hn (List.mem_cons_self ..) trivial ⟨[], upd_same, .nil⟩)⟩
    · cases hm
  · cases hm⟩
/-- what slot i names is let go -/
@[simp] def frzE2 (i : Nat) (E : En) : En := match E[i]? with
  | some (.ow ds) => E.set i (.fz (.lst ds))
  | some (.rt (.rf n)) => (match E[n]? with
    | some (.nd x) => (match ndD x with
      | some d => subE n d E
      | none => E)
    | _ => E)
  | _ => E
theorem RE.frzE2 {K : PySem.W.Frag} {hid O : AS} {B H : Hp} {σ : L2.St} {E : En} (r : RE K hid O B H σ E) (i : Nat) : ∃ O', RE K hid O' B H σ (frzE2 i E) := by
  unfold Sx.frzE2
  split
  · rename_i ds h
    obtain ⟨O', r', _⟩ := r.frz h
    exact ⟨O', r'⟩
  · rename_i n h
    split
    · rename_i x hn
      split
      · rename_i d hd
        exact r.frzN hn hd
      · exact ⟨O, r⟩
    · exact ⟨O, r⟩
  · exact ⟨O, r⟩
@[simp] def mFrz2 (i : Nat) (m : En → Option Out) : En → Option Out := fun E => m (frzE2 i E)
theorem ds_frz2 (i : Nat) (h : DS X st mo) : DS X st (mFrz2 i mo) := ⟨_, h.ps, fun hid O B H σ E o Dn r hm k => by
  obtain ⟨O', r'⟩ := r.frzE2 i
  exact h.si hid O' B H σ _ o Dn r' hm k⟩
/-- a slot is forgotten -/
@[simp] def mUnS (i : Nat) (m : En → Option Out) : En → Option Out := fun E => m (match E[i]? with
  | some (.rt _) => E.set i .un
  | some (.nd _) => E.set i .un
  | _ => E)
/-- the whole of a value, owned or not -/
def SV (K : PySem.W.Frag) (te : TE) (m : En → Option D) : Prop := ∀ (hid O : AS) (B H : Hp) (σ : L2.St) (E : En) (d : D), RE K hid O B H σ E → m E = some d → ∀ Q : VK, (∀ v H', Ex H H' → Rp K H' v d → Q v H') → te σ H Q
def DV (X : Cx) (e : Expr) (m : En → Option D) : Prop := ∃ te, PE X e te ∧ SV X.K te m
theorem DT.v (h : DT X e m) : DV X e m := ⟨_, h.pe, fun hid O B H σ E d r hm Q q => h.si hid O B H σ E d r hm Q fun v H' e x => q v H' e x.full⟩
mutual
@[simp] def rF (E : En) : R → Option D
  | .fz d => some d
  | .rf n => match E[n]? with
    | some (.nd x) => ndD x
    | _ => none
  | .tp rs => (rFs E rs).map .tup
@[simp] def rFs (E : En) : List R → Option (List D)
  | [] => some []
  | r :: rs => (rF E r).bind fun d => (rFs E rs).map (d :: ·)
end
theorem NodW.nodeF {K : PySem.W.Frag} {hid O : AS} {H : Hp} {σ : L2.St} {E : En} {θ : Nat → Addr} {ω : Nat → List Addr} (N : NodW K hid O H σ E θ ω) {n : Nat} {x : Nd} {d : D} (hn : E[n]? = some (.nd x)) (hx : ndD x = some d) : Rp K H (.ref (θ n)) d := by
  cases x with
  | lst rs => exact (N.nodeT hn hx).full
  | dct ks rs => exact (N.nodeT hn hx).full
  | obj q y fs rs => exact (N.nodeT hn hx).full
  | ll dss =>
    cases hx
    obtain ⟨k1, k2, k3, k4⟩ := (N.nd n _ hn).2
    exact .lst k1 ((k4.mono (fun a ha o z => z) rem_ex).rp fun a ha o z => z)
mutual
theorem NodW.full {K : PySem.W.Frag} {hid O : AS} {H : Hp} {σ : L2.St} {E : En} {θ : Nat → Addr} {ω : Nat → List Addr} (N : NodW K hid O H σ E θ ω) : ∀ (r : R) {v : V} {d : D}, ROk K (rem (orS hid O) H) θ v r → rF E r = some d → Rp K H v d
  | .fz e, v, d, h, hm => by
    rw [rF] at hm
    cases hm
    cases h with | fz h => exact h.mono rem_ex _
  | .rf n, v, d, h, hm => by
    cases h
    rw [rF] at hm
    split at hm
    · exact N.nodeF ‹_› hm
    · cases hm
  | .tp rs, v, d, h, hm => by
    rw [rF] at hm
    obtain ⟨ds, e1, rfl⟩ := map_some hm
    cases h with
    | tp h1 h2 => exact .tup (Evl.ex_t rem_ex h1) (N.fulls rs h2 e1)
theorem NodW.fulls {K : PySem.W.Frag} {hid O : AS} {H : Hp} {σ : L2.St} {E : En} {θ : Nat → Addr} {ω : Nat → List Addr} (N : NodW K hid O H σ E θ ω) : ∀ (rs : List R) {vs : List V} {ds : List D}, ROks K (rem (orS hid O) H) θ vs rs → rFs E rs = some ds → RpL K H vs ds
  | [], vs, ds, h, hm => by
    rw [rFs] at hm
    cases hm
    cases h
    exact .nil
  | r :: rs, vs, ds, h, hm => by
    rw [rFs] at hm
    obtain ⟨d, e1, hm⟩ := bind_some hm
    obtain ⟨ds', e2, rfl⟩ := map_some hm
    cases h with
    | cons h1 h2 => exact .cons (N.full r h1 e1) (N.fulls rs h2 e2)
end
@[simp] def mVarV (i : Nat) : En → Option D := fun E => match E[i]? with
  | some (.fz d) => some d
  | some (.ow ds) => some (.lst ds)
  | some (.rt r) => rF E r
  | _ => none
theorem dv_var (i : Nat) (hN : X.N[i]? = some x := by rfl) (hv : Vis X.env.scope x := by first | exact Or.inl rfl | exact Or.inr (Or.inl rfl) | exact Or.inr (Or.inr rfl)) (hd : (x == ("__debug__" : Str)) = false := by decide)
    (hcd : (x == ("__classdict__" : Str)) = false := by decide) : DV X (.Name x pos) (mVarV i) := ⟨_, pe_var hN hv hd hcd, fun hid O B H σ E d r hm Q q => by
  unfold mVarV at hm
  split at hm
  · rename_i d' h
    cases hm
    obtain ⟨v, h1, h2⟩ := r.fz i d h
    exact ⟨v, h1, q v H (Ex.refl H) (h2.mono rem_ex _)⟩
  · rename_i ds h
    cases hm
    obtain ⟨p, xs, h1, h2, h3, h4⟩ := r.ow i ds h
    exact ⟨.ref p, h1, q _ H (Ex.refl H) (.lst h3 (h4.mono rem_ex _))⟩
  · rename_i t h
    obtain ⟨θ, ω, N⟩ := r.nod
    obtain ⟨v, h1, h2⟩ := N.rt i t h
    exact ⟨v, h1, q v H (Ex.refl H) (N.full t h2 hm)⟩
  · cases hm⟩
def DV.pe (h : DV X e m) : ∃ te, PE X e te ∧ SV X.K te m := h
theorem dat_consV {es : List Expr} {ms : En → Option (List D)} (ha : DV X e m) (hr : DAT X es ms) (hs : starEach (e :: es) X.env = (false, eval e X.env) :: starEach es X.env := by rfl) : DAT X (e :: es) (mCons m ms) := by
  obtain ⟨te, h1, h2⟩ := ha
  refine ⟨_, pa_cons h1 hr.pa hs, fun hid O B H σ E ds re hm Q q => ?_⟩
  obtain ⟨y, k1, hm⟩ := bind_some hm
  obtain ⟨xs, k2, rfl⟩ := map_some hm
  refine h2 hid O B H σ E y re k1 _ fun v H1 e1 r1 => ?_
  exact hr.si hid O B H1 σ E xs (re.grow e1) k2 _ fun vs H2 e2 r2 => q _ H2 (e1.trans e2) (.cons (r1.mono e2 _) r2)
/-- y[c], y a tuple that may hold owned objects -/
@[simp] def mRix (j : Nat) (c : Nat) : En → Option D := fun E => match E[j]? with
  | some (.rt (.tp rs)) => (rs[c]?).bind (rT E)
  | _ => (mVarT j E).bind fun y => ixD y (.int (c : Int))
theorem ROks.at {K : PySem.W.Frag} {H : Hp} {θ : Nat → Addr} : ∀ {vs : List V} {rs : List R} {c : Nat} {r : R}, ROks K H θ vs rs → rs[c]? = some r → ∃ v, vs[c]? = some v ∧ ROk K H θ v r
  | _, [], c, r, h, e => by simp at e
  | _, r :: rs, 0, r', h, e => by
    cases h with
    | cons h1 h2 =>
      simp at e
      subst e
      exact ⟨_, rfl, h1⟩
  | _, r :: rs, c + 1, r', h, e => by
    cases h with
    | cons h1 h2 =>
      obtain ⟨v, e1, e2⟩ := h2.at (c := c) (r := r') (by simpa using e)
      exact ⟨v, by simpa using e1, e2⟩
theorem atI_nat {α : Type} (xs : List α) (c : Nat) : atI xs (c : Int) = xs[c]? := by
  unfold atI ixN
  by_cases h : c < xs.length
  · simp [h]
  · simp [h]
theorem dt_rix (j c : Nat) {k1 : Nat} {spos ipos : Pos} (hN : X.N[j]? = some x := by rfl) (hv : Vis X.env.scope x := by first | exact Or.inl rfl | exact Or.inr (Or.inl rfl) | exact Or.inr (Or.inr rfl)) (hd : (x == ("__debug__" : Str)) = false := by decide)
    (hcd : (x == ("__classdict__" : Str)) = false := by decide) : DT X (.Subscript (.Name x p) (.Constant (.int (c : Int)) k1 ipos) spos) (mRix j c) := ⟨_, PE.or (pe_ix ix_seq (pe_var hN hv hd hcd) pe_int (fun _ _ => rfl)) (pe_ix ix_seq (dt_var (X := X) (pos := p) j hN hv hd hcd).pe pe_int (fun _ _ => rfl)), fun hid O B H σ E d r hm Q q => by
  unfold mRix at hm
  split at hm
  · rename_i rs h
    obtain ⟨t, h1, h2⟩ := bind_some hm
    obtain ⟨θ, ω, N⟩ := r.nod
    obtain ⟨v, g1, g2⟩ := N.rt j _ h
    cases g2 with
    | tp g3 g4 =>
      obtain ⟨u, g5, g6⟩ := g4.at h1
      exact .inl ⟨_, g1, .inr (.inl ⟨_, _, _, u, rfl, rfl, Evl.ex_t rem_ex g3, by rw [atI_nat]; exact g5, q u H (Ex.refl H) (N.tv g6 h2)⟩)⟩
  · obtain ⟨y, h1, h2⟩ := bind_some hm
    exact .inr ((dt_var (X := X) (pos := p) j hN hv hd hcd).si hid O B H σ E y r h1 _ fun v H1 e1 r1 => od_ix hid O H1 v _ y _ d (al_of (r.grow e1)) r1 (.inl (.int _)) h2 Q fun w H2 e2 r2 => q w H2 (e1.trans e2) (.inl r2))⟩
/-- x = y[c] -/
@[simp] def mSetRix (i j c : Nat) : En → Option Out := fun E => match E[j]? with
  | some (.rt (.tp rs)) => (rs[c]?).map fun r => .nx (E.set i (.rt r))
  | _ => none
theorem ds_setRix (i j c : Nat) {z : Str} {k1 : Nat} {spos ipos pos' : Pos} (hNd : X.N.Nodup) (hN : X.N[j]? = some x := by rfl) (hv : Vis X.env.scope x := by first | exact Or.inl rfl | exact Or.inr (Or.inl rfl) | exact Or.inr (Or.inr rfl)) (hd : (x == ("__debug__" : Str)) = false := by decide)
    (hcd : (x == ("__classdict__" : Str)) = false := by decide) (hi : X.N[i]? = some z := by rfl) (hx : Loc X.env.scope z := by first | exact Or.inl rfl | exact Or.inr rfl) (hs : swapsWith (.Subscript (.Name x p) (.Constant (.int (c : Int)) k1 ipos) spos) (some (.Name z pos')) pos.line X.env = pure false := by rfl)
    (hf : X.fn z = true ∨ X.env.scope.names.lookup z = some .local := by first | exact .inl rfl | exact .inr rfl) : DS X (.Assign [.Name z pos'] (.Subscript (.Name x p) (.Constant (.int (c : Int)) k1 ipos) spos) pos) (mSetRix i j c) :=
  ⟨_, ps_set hNd hi hx (pe_ix ix_seq (pe_var hN hv hd hcd) pe_int (fun _ _ => rfl)) hs hf, fun hid O B H σ E o Dn r hm k => by
  unfold mSetRix at hm
  split at hm
  · rename_i rs h
    obtain ⟨t, h1, rfl⟩ := map_some hm
    obtain ⟨θ, ω, N⟩ := r.nod
    obtain ⟨v, g1, g2⟩ := N.rt j _ h
    cases g2 with
    | tp g3 g4 =>
      obtain ⟨u, g5, g6⟩ := g4.at h1
      exact ⟨_, g1, .inr (.inl ⟨_, _, _, u, rfl, rfl, Evl.ex_t rem_ex g3, by rw [atI_nat]; exact g5, k O _ H (r.putR N i g6)⟩)⟩
  · cases hm⟩
/-! ### enumerate of a tuple, sorted of a dict -/
@[simp] def mEnumT (m : En → Option D) : En → Option (List D) := fun E => ((m E).bind tupOf).map (enumD 0)
theorem di_enumT {tpos : Pos} {elts : List Expr} {kk : Nat} (hm : X.mg "enumerate" = none) (h : DE X e m) (hg : Gl X "enumerate" := by rfl) (hs1 : starEach [e] X.env = (false, eval e X.env) :: starEach [] X.env := by rfl) (hs : starEach [e] X.env = [(false, eval e X.env)] := by rfl) :
    DI X (.Tuple elts kk tpos) (.Call (.Name "enumerate" p) [e] [] pos) (mEnumT m) := ⟨_, pi_enumT hg hm (pa_cons h.pe pa_nil hs1) hs, fun hid O B H σ E ds r hm R k => by
  obtain ⟨es, h1, rfl⟩ := map_some hm
  obtain ⟨x, h2, h3⟩ := bind_some h1
  refine h.si hid O B H σ E x r h2 _ fun v H1 e1 r1 => ?_
  unfold tupOf at h3
  split at h3
  · cases h3
    cases r1 with
    | @tup a xs _ g1 g2 =>
      refine ⟨a, xs, rfl, Evl.ex_t rem_ex g1, ?_⟩
      have w := walk_enumT (K := X.K) (a := a) (xs := xs)
      rw [g2.length, ← enumD_len es 0] at w
      exact k _ H1 _ _ e1 w (fun H' z => Evl.ex_t z g1) (Yd.enum g2)
  · cases h3⟩
def intKeys : List Key → Option (List Int)
  | [] => some []
  | .inl i :: ks => (intKeys ks).map (i :: ·)
  | _ :: _ => none
theorem intKeys_some : ∀ {ks : List Key} {ns : List Int}, intKeys ks = some ns → ks = ns.map Sum.inl
  | [], ns, h => by cases h; rfl
  | .inl i :: ks, ns, h => by
    obtain ⟨ms, h1, rfl⟩ := map_some (show (intKeys ks).map (i :: ·) = some ns from h)
    rw [intKeys_some h1]
    rfl
  | .inr _ :: ks, ns, h => by cases h
theorem intKeys_map : ∀ (ns : List Int), intKeys (ns.map Sum.inl) = some ns
  | [] => rfl
  | n :: ns => by
    show (intKeys (ns.map Sum.inl)).map (n :: ·) = _
    rw [intKeys_map ns]
    rfl
@[simp] def keysOf : D → Option (List Int)
  | .dct ks _ => (intKeys ks).bind fun ns => if ns.length ≤ 100000 then some ns else none
  | _ => none
theorem df_sortedD (hc : X.calm = true) (hm : X.mg "sorted" = none) (ha : DT X e m) (hg : Gl X "sorted" := by rfl) (hs : starEach [e] X.env = (false, eval e X.env) :: starEach [] X.env := by rfl) (hpl : (backTo pos (starEach [] X.env)).any (·.1) = false := by rfl) :
    DF X (.Call (.Name "sorted" p) [e] [] pos) (fun E => ((m E).bind keysOf).map fun ns => (sortI ns).map .int) := ⟨_, pe_callB (call_sortedDIx hc) hg hm (by decide +kernel) (pa_cons ha.pe pa_nil hs) (by decide) (by decide) hs hpl, fun hid O B H σ E ds re hm Q q => by
  obtain ⟨ns, h1, rfl⟩ := map_some hm
  obtain ⟨x, h0, h1⟩ := bind_some h1
  refine ha.si hid O B H σ E x re h0 _ fun v H1 e1 r1 => ?_
  unfold keysOf at h1
  split at h1
  · obtain ⟨ms, h2, h3⟩ := bind_some h1
    obtain ⟨h4, rfl⟩ := ite_some h3
    obtain ⟨p, xs, rfl, g1, g2, g3⟩ := r1.dct
    refine ⟨p, _, ms, rfl, .inl g1, ?_, h4, fun ns' l hp hs hl => ?_⟩
    · rw [List.map_fst_zip (by omega), intKeys_some h2]
    · rw [sorted_uniq (hp.trans (sortI_perm ms).symm) hs (sortI_le ms)]
      exact q l _ _ (Evl.fresh_back e1 hl) (e1.trans (Ex.new hl)) upd_same (RpL.ints _)
  · cases h1⟩
end
end Sx

set_option Elab.async false
set_option linter.all false
set_option maxRecDepth 100000
set_option maxHeartbeats 1000000
namespace Sx
open PySem PySem.Spec PyProof.Rows L2
open Evl (Ex)

/-! ### arguments that may be owned lists, results without lists -/
def lsW (hid O : AS) (H : Hp) : AS := fun a => orS hid O a ∧ ¬ ∃ xs, H a = some (.lst xs)
theorem lsW_ex {hid O : AS} {H : Hp} : Ex (rem (orS hid O) H) (rem (lsW hid O H) H) := rem_sub fun a z => z.1
theorem lsW_mono {hid O : AS} {H H' : Hp} (e : Ex H H') : Ex (rem (lsW hid O H) H) (rem (lsW hid O H') H') := fun a o q => by
  obtain ⟨z1, z2⟩ := rem_some.mp q
  exact rem_some.mpr ⟨fun z => z1 ⟨z.1, fun ⟨xs, y⟩ => z.2 ⟨xs, e _ _ y⟩⟩, e a o z2⟩
mutual
@[simp] def nol : D → Bool
  | .lst _ => false
  | .scr _ => false
  | .tup ds => nols ds
  | .dct _ ds => nols ds
  | .obj _ _ ds => nols ds
  | _ => true
@[simp] def nols : List D → Bool
  | [] => true
  | d :: ds => nol d && nols ds
end
section
variable {K : PySem.W.Frag} {H : Hp} {W W' : AS}
theorem rem_nl (hW : ∀ a, W a → W' a ∨ ∃ xs, H a = some (.lst xs)) {a : Addr} {o : HO} (h : rem W' H a = some o) (hn : ∀ xs, o ≠ .lst xs) : rem W H a = some o := by
  obtain ⟨z1, z2⟩ := rem_some.mp h
  refine rem_some.mpr ⟨fun z => ?_, z2⟩
  rcases hW a z with y | ⟨xs, y⟩
  · exact z1 y
  · rw [z2] at y
    cases y
    exact hn xs rfl
theorem rem_nlT (hW : ∀ a, W a → W' a ∨ ∃ xs, H a = some (.lst xs)) {a : Addr} {xs : List V} (h : SqT K (rem W' H) a xs) : SqT K (rem W H) a xs := by
  rcases h with (h | ⟨o, h⟩) | h
  · exact .inl (.inl (rem_nl hW h fun _ z => by cases z))
  · exact .inl (.inr ⟨o, rem_nl hW h fun _ z => by cases z⟩)
  · exact .inr h
mutual
theorem nol_rp (hW : ∀ a, W a → W' a ∨ ∃ xs, H a = some (.lst xs)) : ∀ (d : D) {v : V}, nol d = true → Rp K (rem W' H) v d → Rp K (rem W H) v d
  | .non, _, _, h => by cases h; exact .non
  | .bl b, _, _, h => by cases h; exact .bl b
  | .int i, _, _, h => by cases h; exact .int i
  | .str x, _, _, h => by cases h; exact .str x
  | .lst ds, _, z, h => by
    rw [nol] at z
    cases z
  | .tup ds, _, z, h => by
    rw [nol] at z
    cases h with
    | tup h1 h2 => exact .tup (rem_nlT hW h1) (nols_rp hW ds z h2)
  | .scr ns, _, z, h => by
    rw [nol] at z
    cases z
  | .dct ks ds, _, z, h => by
    rw [nol] at z
    cases h with
    | dct h1 h2 h3 => exact .dct (rem_nl hW h1 fun _ y => by cases y) h2 (nols_rp hW ds z h3)
  | .obj x fs ds, _, z, h => by
    rw [nol] at z
    cases h with
    | obj h1 h2 h3 => exact .obj (rem_nl hW h1 fun _ y => by cases y) h2 (nols_rp hW ds z h3)
theorem nols_rp (hW : ∀ a, W a → W' a ∨ ∃ xs, H a = some (.lst xs)) : ∀ (ds : List D) {vs : List V}, nols ds = true → RpL K (rem W' H) vs ds → RpL K (rem W H) vs ds
  | [], _, _, h => by cases h; exact .nil
  | d :: ds, _, z, h => by
    rw [nols] at z
    obtain ⟨z1, z2⟩ := Bool.and_eq_true_iff.mp z
    cases h with
    | cons h1 h2 => exact .cons (nol_rp hW d z1 h1) (nols_rp hW ds z2 h2)
end
end
theorem lsW_hW {hid O : AS} {H H' : Hp} (e : Ex H H') : ∀ a, orS hid O a → lsW hid O H a ∨ ∃ xs, H' a = some (.lst xs) := fun a z => by
  by_cases h : ∃ xs, H a = some (.lst xs)
  · obtain ⟨xs, h⟩ := h
    exact .inr ⟨xs, e _ _ h⟩
  · exact .inl ⟨z, h⟩
def SAL (K : PySem.W.Frag) (ta : TA) (m : En → Option (List D)) : Prop := ∀ (hid O : AS) (B H : Hp) (σ : L2.St) (E : En) (ds : List D), RE K hid O B H σ E → m E = some ds → ∀ Q : List V → Hp → Prop, (∀ vs H', Ex H H' → RpL K (rem (lsW hid O H') H') vs ds → Q vs H') → ta σ H Q
def DAL (X : Cx) (es : List Expr) (m : En → Option (List D)) : Prop := ∃ ta, PA X es ta ∧ SAL X.K ta m
section
variable {X : Cx} {e : Expr} {es : List Expr} {ma : En → Option D} {m : En → Option (List D)}
theorem dal_nil : DAL X [] mNil := ⟨_, pa_nil, fun hid O B H σ E ds re hm Q q => by
  cases hm
  exact q [] H (Ex.refl H) .nil⟩
theorem dal_consE (ha : DE X e ma) (hr : DAL X es m) (hs : starEach (e :: es) X.env = (false, eval e X.env) :: starEach es X.env := by rfl) : DAL X (e :: es) (mCons ma m) := by
  obtain ⟨ta, h1, h2⟩ := hr
  refine ⟨_, pa_cons ha.pe h1 hs, fun hid O B H σ E ds re hm Q q => ?_⟩
  obtain ⟨x, k1, hm⟩ := bind_some hm
  obtain ⟨xs, k2, rfl⟩ := map_some hm
  refine ha.si hid O B H σ E x re k1 _ fun v H1 e1 r1 => ?_
  exact h2 hid O B H1 σ E xs (re.grow e1) k2 _ fun vs H2 e2 r2 => q _ H2 (e1.trans e2) (.cons ((r1.mono (rem_mono e2) _).mono lsW_ex _) r2)
@[simp] def mIsL (m : En → Option D) : En → Option D := fun E => match m E with
  | some (.lst ds) => some (.lst ds)
  | _ => none
theorem dal_consT (ha : DT X e ma) (hr : DAL X es m) (hs : starEach (e :: es) X.env = (false, eval e X.env) :: starEach es X.env := by rfl) : DAL X (e :: es) (mCons (mIsL ma) m) := by
  obtain ⟨ta, h1, h2⟩ := hr
  refine ⟨_, pa_cons ha.pe h1 hs, fun hid O B H σ E ds re hm Q q => ?_⟩
  obtain ⟨x, k1, hm⟩ := bind_some hm
  obtain ⟨xs, k2, rfl⟩ := map_some hm
  unfold mIsL at k1
  split at k1
  · rename_i ys k0
    cases k1
    refine ha.si hid O B H σ E _ re k0 _ fun v H1 e1 r1 => ?_
    refine h2 hid O B H1 σ E xs (re.grow e1) k2 _ fun vs H2 e2 r2 => q _ H2 (e1.trans e2) (.cons ?_ r2)
    obtain ⟨p, us, rfl, g1, g2⟩ := (r1.mono e2).lst
    exact .lst (rem_some.mpr ⟨fun z => z.2 ⟨us, g1⟩, g1⟩) (g2.mono lsW_ex _)
  · cases k1
end
theorem lsW_m {K : PySem.W.Frag} {hid O : AS} {B H : Hp} {σ : L2.St} {E : En} (re : RE K hid O B H σ E) : ∀ a, lsW hid O H a → IsM H a := fun a z => by
  rcases z.1 with z | z
  · exact (re.hidd a z).mono re.ex
  · exact (re.own a z).2
theorem orS_m {K : PySem.W.Frag} {hid O : AS} {B H : Hp} {σ : L2.St} {E : En} (re : RE K hid O B H σ E) : ∀ a, orS hid O a → IsM H a := fun a z => by
  rcases z with z | z
  · exact (re.hidd a z).mono re.ex
  · exact (re.own a z).2
@[simp] def mCallL (n : Nat) (m : List D → Option D) (a : En → Option (List D)) : En → Option D := fun E => (a E).bind fun ds => if ds.length = n then (m ds).bind fun d => if nol d = true then some d else none else none
theorem de_callL {X : Cx} {x : Str} {k n : Nat} {m : List D → Option D} {e : Expr} {es : List Expr} {ma : En → Option (List D)} {p pos : Pos} {P : Program} {w : World} {K : PySem.W.Frag} {mg : Str → Option Value} {base : Heap} {A : Around} (G : Cal P w K mg base x k n m) (hr : Room k A) (ha : DAL X (e :: es) ma) (hA : X.A = A := by rfl) (hP : X.prog = P := by rfl) (hw : X.w = w := by rfl) (hK : X.K = K := by rfl) (hmg : X.mg = mg := by rfl) (hba : X.base = base := by rfl) (hg : Gl X x := by rfl) (hdb : (x == ("__debug__" : Str)) = false := by decide) (he : starEach (e :: es) X.env = (false, eval e X.env) :: starEach es X.env := by rfl) (hpl : (backTo pos (starEach es X.env)).any (·.1) = false := by rfl) :
    DE X (.Call (.Name x p) (e :: es) [] pos) (mCallL n m ma) := by
  subst hA hP hw hK hmg hba
  obtain ⟨f, fd, ps, g1, g2, g3, g4⟩ := G.ex
  obtain ⟨ta, a1, a2⟩ := ha
  refine ⟨_, pe_call g2 hr hg g1 g3 g4 .nil pass0 a1 hdb he hpl, fun hid O B H σ E d re hm Q q => ?_⟩
  obtain ⟨ds, h1, hm⟩ := bind_some hm
  by_cases hl : ds.length = n
  · rw [if_pos hl] at hm
    obtain ⟨d', h2, hm⟩ := bind_some hm
    obtain ⟨h3, rfl⟩ := ite_some hm
    refine a2 hid O B H σ E ds re h1 _ fun vs H1 e1 r1 => ?_
    rw [List.append_nil]
    exact ⟨lsW hid O H1, ds, d', lsW_m (re.grow e1), r1, hl, h2, fun v H2 e2 r2 => q v H2 (e1.trans e2) (nol_rp (lsW_hW e2) _ h3 r2)⟩
  · rw [if_neg hl] at hm
    cases hm

/-! ### results (d, new list) -/
section
variable {X : Cx} {e1 e2 : Expr} {m1 : En → Option D} {m2 : En → Option (List D)} {pos tpos : Pos}
@[simp] def mRetTF (m1 : En → Option D) (m2 : En → Option (List D)) : En → Option Out := fun E => (m1 E).bind fun d => (m2 E).map fun ds => .tf d ds
theorem ds_retTF {k0} (h1 : DE X e1 m1) (h2 : DF X e2 m2) (hs1 : starEach [e1, e2] X.env = (false, eval e1 X.env) :: starEach [e2] X.env := by rfl) (hs2 : starEach [e2] X.env = (false, eval e2 X.env) :: starEach [] X.env := by rfl) :
    DS X (.Return (some (.Tuple [e1, e2] k0 tpos)) pos) (mRetTF m1 m2) := ⟨_, ps_ret (pe_tup (pa_cons h1.pe (pa_cons h2.pe pa_nil hs2) hs1)), fun hid O B H σ E o Dn r hm k => by
  obtain ⟨d, k1, hm⟩ := bind_some hm
  obtain ⟨ds, k2, rfl⟩ := map_some hm
  refine h1.si hid O B H σ E d r k1 _ fun v H1 e1 r1 => ?_
  refine h2.si hid O B H1 σ E ds (r.grow e1) k2 _ fun p xs H2 hp e2 hx r2 => ?_
  refine ⟨by show (2 : Nat) ≤ sizeLine; decide, fun q hq => ?_⟩
  have e3 : Ex H2 (upd H2 q (.tup [v, .ref p])) := Ex.new hq
  have sub : Ex (rem (orS (orS hid O) (· = p)) (upd H2 q (.tup [v, .ref p]))) (rem (orS hid (· = p)) (upd H2 q (.tup [v, .ref p]))) := rem_sub fun a z => by
    rcases z with z | z
    · exact .inl (.inl z)
    · exact .inr z
  have hqp : q ≠ p := fun z => by
    rw [z, hx] at hq
    cases hq
  have fr : ¬ hid q := fun z => by
    have := (r.grow e1).grow e2
    exact this.fresh hq (.inl z)
  have nv : Ex (rem (orS hid O) H1) (rem (orS (orS hid O) (· = p)) H2) := rem_new hp e2
  refine k q v p xs _ (Evl.fresh_back (r.ex.trans e1) hp) (((r.ex.trans e1).trans e2).trans e3) (e3 p _ hx) ((r2.mono (rem_mono e3) _).mono sub _) (Evl.st_of (rem_some.mpr ⟨fun z => ?_, upd_same⟩)) (((r1.mono nv _).mono (rem_mono e3) _).mono sub _)
  rcases z with z | z
  · exact fr z
  · exact hqp z⟩
end
def callTF (n N : Nat) (body : En → Option Out) : List D → Option (D × List D) := fun ds => match body (ds.map Sl.fz ++ List.replicate (N - ds.length) Sl.un) with
  | some (.tf d es) => some (d, es)
  | _ => none
def spTF (K : PySem.W.Frag) (n : Nat) (m : List D → Option (D × List D)) : Sp := fun vs H Q _ => ∃ (hid : AS) (ds : List D) (d : D) (es : List D), (∀ a, hid a → IsM H a) ∧ RpL K (rem hid H) vs ds ∧ ds.length = n ∧ m ds = some (d, es) ∧
  ∀ q v p xs H', H p = none → Ex H H' → H' p = some (.lst xs) → RpL K (rem (orS hid (· = p)) H') xs es → SqT K (rem (orS hid (· = p)) H') q [v, .ref p] → Rp K (rem (orS hid (· = p)) H') v d → Q (.ref q) H'
structure CalTF (P : Program) (w : World) (K : PySem.W.Frag) (mg : Str → Option Value) (base : Heap) (x : Str) (k n : Nat) (m : List D → Option (D × List D)) : Prop where
  ex : ∃ (f : Addr) (fd : FuncData) (ps : List Str), mg x = some (.ref f) ∧ FnOk P w K mg base CX0 k f fd ps (spTF K n m) ∧ PySem.W.keepIn K (.ref f) = true ∧ Binds K fd ps []
section
variable {P : Program} {w : World} {K : PySem.W.Frag} {mg : Str → Option Value} {base : Heap}
theorem fnTF_mk {x : Str} {st : Stmt} {N ps : List Str} {k n : Nat} {m : En → Option Out} {f : Addr} {fd : FuncData} (F : FunD K x x (defArgs st) (defBody st) (defScope st) [] [] f fd) (S : FnScope N ps (defScope st)) (hn : ps.length = n)
    (hbody : ∀ (cdv : Value) (A : Around) (outer : List Env) (s : Shared) (H : Hp) (E : XK), Room k (A.deeper (envOfC x (defScope st) s.heap.objs.size f cdv)) →
      DSs (cxOf CX0 P w K mg base N x (defScope st) f cdv A outer s H E).nox (defBody st) m) : FnOk P w K mg base CX0 (k + 1) f fd ps (spTF K n (callTF n N.length m)) := by
  refine F.ok S (fun vs H Q E h => ?_) (fun cdv A outer s H vs Q E hr h => ?_)
  · obtain ⟨hid, ds, d, es, _, h1, h2, _⟩ := h
    rw [h1.length, h2, hn]
  · obtain ⟨hid, ds, d, es, h0, h1, h2, h3, q⟩ := h
    have T := hbody cdv A outer s H E hr
    refine ⟨_, T.ps.nox, ?_⟩
    have r0 : RE K hid noS H H (start N vs) (ds.map Sl.fz ++ List.replicate (N.length - ds.length) Sl.un) := RE.start h0 h1
    unfold callTF at h3
    split at h3
    · rename_i d' es' e
      cases h3
      exact T.si hid noS H H _ _ (.tf d es) _ r0 e fun t v p xs H' hp ex hx rv st rd => q t v p xs H' hp ex hx rv st rd
    · cases h3
theorem calTF_of {x : Str} {st : Stmt} {ps : List Str} {k n : Nat} {m : List D → Option (D × List D)} (F : Stands K mg x st)
    (hb : ∀ (kV doc pm : Value) (an : Option Addr) (cdv ct : Value) (us : List Value), us.length = ps.length → bindArgs (PySem.W.fnOf x x (defArgs st) (defBody st) (defScope st) .none kV doc pm an cdv ct) ⟨us, []⟩ = pure (ps.zip us))
    (h : ∀ {f : Addr} {fd : FuncData}, FunD K x x (defArgs st) (defBody st) (defScope st) [] [] f fd → FnOk P w K mg base CX0 k f fd ps (spTF K n m)) : CalTF P w K mg base x k n m := by
  obtain ⟨f, fd, g, F⟩ := F.ex
  exact ⟨f, fd, ps, g, h F, F.kp, fun_binds F hb⟩
end
/-- a call of such a def: the pair, frozen -/
@[simp] def tfD : D × List D → D := fun r => .tup [r.1, .lst r.2]
@[simp] def mCallTFL (n : Nat) (m : List D → Option (D × List D)) (a : En → Option (List D)) : En → Option (D × List D) := fun E => (a E).bind fun ds => if ds.length = n then (m ds).bind fun r => if nol r.1 = true ∧ nols r.2 = true then some r else none else none
section
variable {X : Cx} {x : Str} {k n : Nat} {m : List D → Option (D × List D)} {e : Expr} {es : List Expr} {ma : En → Option (List D)} {p pos : Pos} {P : Program} {w : World} {K : PySem.W.Frag} {mg : Str → Option Value} {base : Heap} {A : Around}
def STF (K : PySem.W.Frag) (te : TE) (m : En → Option (D × List D)) : Prop := ∀ (hid O : AS) (B H : Hp) (σ : L2.St) (E : En) (r : D × List D), RE K hid O B H σ E → m E = some r → ∀ Q : VK,
  (∀ q v p xs H', H p = none → Ex H H' → H' p = some (.lst xs) → RpL K (rem (orS (orS hid O) (· = p)) H') xs r.2 → SqT K (rem (orS (orS hid O) (· = p)) H') q [v, .ref p] → Rp K (rem (orS (orS hid O) (· = p)) H') v r.1 → Q (.ref q) H') → te σ H Q
def DTF (X : Cx) (e : Expr) (m : En → Option (D × List D)) : Prop := ∃ te, PE X e te ∧ STF X.K te m
theorem dtf_call (G : CalTF P w K mg base x k n m) (hr : Room k A) (ha : DAL X (e :: es) ma) (hA : X.A = A := by rfl) (hP : X.prog = P := by rfl) (hw : X.w = w := by rfl) (hK : X.K = K := by rfl) (hmg : X.mg = mg := by rfl) (hba : X.base = base := by rfl) (hg : Gl X x := by rfl) (hdb : (x == ("__debug__" : Str)) = false := by decide) (he : starEach (e :: es) X.env = (false, eval e X.env) :: starEach es X.env := by rfl) (hpl : (backTo pos (starEach es X.env)).any (·.1) = false := by rfl) :
    DTF X (.Call (.Name x p) (e :: es) [] pos) (mCallTFL n m ma) := by
  subst hA hP hw hK hmg hba
  obtain ⟨f, fd, ps, g1, g2, g3, g4⟩ := G.ex
  obtain ⟨ta, a1, a2⟩ := ha
  refine ⟨_, pe_call g2 hr hg g1 g3 g4 .nil pass0 a1 hdb he hpl, fun hid O B H σ E rr re hm Q q => ?_⟩
  obtain ⟨ds, h1, hm⟩ := bind_some hm
  by_cases hl : ds.length = n
  · rw [if_pos hl] at hm
    obtain ⟨r', h2, hm⟩ := bind_some hm
    obtain ⟨⟨h3, h4⟩, rfl⟩ := ite_some hm
    refine a2 hid O B H σ E ds re h1 _ fun vs H1 e1 r1 => ?_
    rw [List.append_nil]
    refine ⟨lsW hid O H1, ds, r'.1, r'.2, lsW_m (re.grow e1), r1, hl, h2, fun t v p xs H2 hp e2 hx rv st rd => ?_⟩
    have hW : ∀ a, orS (orS hid O) (· = p) a → orS (lsW hid O H1) (· = p) a ∨ ∃ xs, H2 a = some (.lst xs) := fun a z => by
      rcases z with z | z
      · rcases lsW_hW e2 a z with y | y
        · exact .inl (.inl y)
        · exact .inr y
      · exact .inl (.inr z)
    exact q t v p xs H2 (Evl.fresh_back e1 hp) (e1.trans e2) hx (nols_rp hW _ h4 rv) (rem_nlT hW st) (nol_rp hW _ h3 rd)
  · rw [if_neg hl] at hm
    cases hm
theorem DTF.toE {mt : En → Option (D × List D)} (h : DTF X e mt) : DE X e (fun E => (mt E).map tfD) := by
  obtain ⟨te, h1, h2⟩ := h
  refine ⟨_, h1, fun hid O B H σ E d re hm Q q => ?_⟩
  obtain ⟨r, k1, rfl⟩ := map_some hm
  refine h2 hid O B H σ E r re k1 Q fun t v p xs H' hp e hx rv st rd => ?_
  have sub : Ex (rem (orS (orS hid O) (· = p)) H') (rem (orS hid O) H') := rem_sub fun a z => .inl z
  exact q _ H' e (.tup (Evl.ex_t sub st) (.cons (rd.mono sub _) (.cons (.lst (rem_some.mpr ⟨fun z => re.fresh hp z, hx⟩) (rv.mono sub _)) .nil)))
/-- x = such a call: the new list is a node -/
@[simp] def mSetTF (i n : Nat) (mt : En → Option (D × List D)) : En → Option Out := fun E => (mt E).bind fun r => if noE n E = true then some (.nx ((E.set n (.nd (.lst (r.2.map .fz)))).set i (.rt (.tp [.fz r.1, .rf n])))) else none
theorem ds_setTF (i n : Nat) {y : Str} {mt : En → Option (D × List D)} {pos' : Pos} (hN : X.N.Nodup) (he : DTF X e mt) (hi : X.N[i]? = some y := by rfl) (hx : Loc X.env.scope y := by first | exact Or.inl rfl | exact Or.inr rfl) (hs : swapsWith e (some (.Name y pos')) pos.line X.env = pure false := by rfl)
    (hf : X.fn y = true ∨ X.env.scope.names.lookup y = some .local := by first | exact .inl rfl | exact .inr rfl) : DS X (.Assign [.Name y pos'] e pos) (mSetTF i n mt) := by
  obtain ⟨te, h1, h2⟩ := he
  refine ⟨_, ps_set hN hi hx h1 hs hf, fun hid O B H σ E o Dn re hm k => ?_⟩
  obtain ⟨r, k1, hm⟩ := bind_some hm
  obtain ⟨no, rfl⟩ := ite_some hm
  refine h2 hid O B H σ E r re k1 _ fun t v p xs H' hp e hx rv st rd => ?_
  have sub : Ex (rem (orS (orS hid O) (· = p)) H') (rem (orS hid (orS O (· ∈ [p]))) H') := rem_sub fun a z => by
    rcases z with z | z | z
    · exact .inl (.inl z)
    · exact .inl (.inr z)
    · exact .inr (List.mem_singleton.mp z)
  obtain ⟨θ, ω, N, z, r3⟩ := re.newN (H' := H') (p := p) (w := []) (x := .lst (r.2.map .fz)) (n := n) (fun a ha => by rw [List.mem_singleton.mp ha]; exact hp) e (fun a ha => by rw [List.mem_singleton.mp ha]; exact .lst hx) no fun θ => ⟨xs, hx, .fz (rv.mono sub _)⟩
  refine k _ _ H' (r3.putR N i (t := .tp [.fz r.1, .rf n]) (.tp (Evl.ex_t sub st) (.cons (.fz (rd.mono sub _)) (.cons ?_ .nil))))
  rw [← z]
  exact .rf n
end

/-! ### classes: __init__, made -/
def callI (N n : Nat) (x : Str) (body : En → Option Out) (a : Addr) : List D → Option D := fun ds => match body ((Sl.rt (.rf n) :: (ds.map Sl.fz ++ List.replicate (N - 1 - ds.length) Sl.un)).set n (.nd (.obj (some a) x [] []))) with
  | some (.nx E) => (match E[n]? with
    | some (.nd (.obj q y fs rs)) => if q = some a then ndT (.obj q y fs rs) else none
    | _ => none)
  | _ => none
def spI (K : PySem.W.Frag) (n : Nat) (x : Str) (m : List D → Option D) : Sp := fun vs H Q _ => ∃ (hid : AS) (H0 : Hp) (a dx : Addr) (us : List V) (ds : List D) (d : D), vs = .ref a :: us ∧ H0 a = none ∧ H0 dx = none ∧ dx ≠ a ∧ H = upd (upd H0 dx (.own a)) a (.ins (He.ga K x) dx []) ∧
  (∀ a, hid a → IsM H0 a) ∧ RpL K (rem hid H0) us ds ∧ ds.length = n ∧ m ds = some d ∧ ∀ H', Ex H0 H' → Rp K (rem hid H') (.ref a) d → Q .non H'
structure CalI (P : Program) (w : World) (K : PySem.W.Frag) (mg : Str → Option Value) (base : Heap) (x : Str) (k n : Nat) (m : List D → Option D) : Prop where
  ex : ∃ (f : Addr) (fd : FuncData) (ps : List Str), mg x = some (.ref (He.ga K x)) ∧ Mk K (He.ga K x) f ∧ FnOk P w K mg base CX0 k f fd ps (spI K n x m) ∧ Binds K fd ps []
/-- a method __init__ of the text, its class at x -/
structure StandsI (K : PySem.W.Frag) (mg : Str → Option Value) (x q : Str) (st : Stmt) : Prop where
  ex : ∃ (f : Addr) (fd : FuncData), mg x = some (.ref (He.ga K x)) ∧ Mk K (He.ga K x) f ∧ FunD K "__init__" q (defArgs st) (defBody st) (defScope st) [] [] f fd
section
variable {P : Program} {w : World} {K : PySem.W.Frag} {mg : Str → Option Value} {base : Heap}
theorem fnI_mk {x q : Str} {st : Stmt} {N ps : List Str} {k n j : Nat} {m : En → Option Out} {mi : List D → Option D} {f : Addr} {fd : FuncData} (F : FunD K "__init__" q (defArgs st) (defBody st) (defScope st) [] [] f fd) (S : FnScope N ps (defScope st)) (hn : ps.length = n + 1) (hj0 : 0 < j) (hj : n < j) (hjN : j < N.length)
    (hm : ∀ a ds d, mi ds = some d → callI N.length j x m a ds = some d)
    (hbody : ∀ (cdv : Value) (A : Around) (outer : List Env) (s : Shared) (H : Hp) (E : XK), Room k (A.deeper (envOfC q (defScope st) s.heap.objs.size f cdv)) →
      DSs (cxOf CX0 P w K mg base N q (defScope st) f cdv A outer s H E).nox (defBody st) m) : FnOk P w K mg base CX0 (k + 1) f fd ps (spI K n x mi) := by
  refine F.ok S (fun vs H Q E h => ?_) (fun cdv A outer s H vs Q E hr h => ?_)
  · obtain ⟨hid, H0, a, dx, us, ds, d, rfl, _, _, _, _, _, h1, h2, _⟩ := h
    rw [List.length_cons, h1.length, h2, hn]
  · obtain ⟨hid, H0, a, dx, us, ds, d, rfl, a0, dx0, ne, rfl, h0, h1, h2, h3, k0⟩ := h
    have T := hbody cdv A outer s (upd (upd H0 dx (.own a)) a (.ins (He.ga K x) dx [])) E hr
    refine ⟨_, T.ps.nox, ?_⟩
    have hB : Ex H0 (upd H0 dx (.own a)) := Ex.new dx0
    have ba : upd H0 dx (.own a) a = none := by rw [upd_ne (fun z => ne z.symm)]; exact a0
    have hH : Ex (upd H0 dx (.own a)) (upd (upd H0 dx (.own a)) a (.ins (He.ga K x) dx [])) := Ex.new ba
    have ee := hB.trans hH
    have nh : ¬ hid a := fun z => by
      obtain ⟨o, y, _⟩ := h0 a z
      rw [a0] at y
      cases y
    have vis : Ex (rem hid H0) (rem (orS hid (· = a)) (upd (upd H0 dx (.own a)) a (.ins (He.ga K x) dx []))) := fun b o z => by
      obtain ⟨z1, z2⟩ := rem_some.mp z
      refine rem_some.mpr ⟨fun y => ?_, ee b o z2⟩
      rcases y with y | y
      · exact z1 y
      · rw [y, a0] at z2
        cases z2
    have hlen : us.length = n := by rw [h1.length, h2]
    have sEq : start N (.ref a :: us) = some (.ref a) :: (us.map some ++ List.replicate (N.length - 1 - us.length) none) := by
      unfold L2.start
      rw [List.map_cons, List.length_cons, List.cons_append]
      congr 3
      omega
    have eAt : ∀ (i : Nat) (s : Sl), ((Sl.rt (.rf j) :: (ds.map Sl.fz ++ List.replicate (N.length - 1 - ds.length) Sl.un)).set j (.nd (.obj (some a) x [] [])))[i]? = some s → (i = j ∧ s = .nd (.obj (some a) x [] [])) ∨ (i = 0 ∧ s = .rt (.rf j)) ∨ (∃ t d, i = t + 1 ∧ ds[t]? = some d ∧ s = .fz d) ∨ s = .un := fun i s z => by
      rcases set_at z with ⟨y1, y2⟩ | ⟨y1, y2⟩
      · exact .inl ⟨y1.symm, y2.symm⟩
      · cases i with
        | zero =>
          simp at y2
          exact .inr (.inl ⟨rfl, y2.symm⟩)
        | succ t =>
          rw [List.getElem?_cons_succ] at y2
          rcases start_at y2 with ⟨_, d, y3, y4⟩ | y3
          · exact .inr (.inr (.inl ⟨t, d, rfl, y3, y4⟩))
          · exact .inr (.inr (.inr y3))
    have r0 : RE K hid (· = a) (upd H0 dx (.own a)) (upd (upd H0 dx (.own a)) a (.ins (He.ga K x) dx [])) (start N (.ref a :: us)) ((Sl.rt (.rf j) :: (ds.map Sl.fz ++ List.replicate (N.length - 1 - ds.length) Sl.un)).set j (.nd (.obj (some a) x [] []))) := by
      refine ⟨fun b o z => ⟨hH b o z, fun y => ?_⟩, fun b y => ?_, fun b z => (h0 b z).mono hB, ?_, fun i d z => ?_, fun i es z => ?_, fun i k' p es fs _ z => ?_, ⟨fun _ => a, fun _ => [], fun n' y z => ?_, fun n1 n2 y1 y2 dd z1 z2 => ?_, fun i r z => ?_, fun i n' es y p z => ?_⟩⟩
      · rw [y, ba] at z
        cases z
      · rw [y]
        exact ⟨nh, ⟨_, upd_same, trivial⟩⟩
      · rw [sEq, List.length_set, List.length_cons, List.length_cons, List.length_append, List.length_append, List.length_map, List.length_map, List.length_replicate, List.length_replicate, h1.length]
      · rcases eAt i _ z with ⟨_, y⟩ | ⟨_, y⟩ | ⟨t, d', rfl, y1, y2⟩ | y
        · cases y
        · cases y
        · cases y2
          obtain ⟨v, g1, g2⟩ := h1.get y1
          refine ⟨v, ?_, g2.mono vis _⟩
          have ht : t < us.length := (List.getElem?_eq_some_iff.mp g1).1
          rw [sEq, List.getElem?_cons_succ, List.getElem?_append_left (by rw [List.length_map]; exact ht), List.getElem?_map, g1]
          rfl
        · cases y
      · rcases eAt i _ z with ⟨_, y⟩ | ⟨_, y⟩ | ⟨t, d', rfl, y1, y2⟩ | y
        · cases y
        · cases y
        · cases y2
        · cases y
      · rcases eAt i _ z with ⟨_, y⟩ | ⟨_, y⟩ | ⟨t, d', rfl, y1, y2⟩ | y
        · cases y
        · cases y
        · cases y2
        · cases y
      · rcases eAt n' _ z with ⟨_, y'⟩ | ⟨_, y'⟩ | ⟨t, d', _, y1, y2⟩ | y'
        · cases y'
          exact ⟨fun b hb => List.mem_singleton.mp hb, dx, [], fun b hb => Option.some.inj hb, upd_same, rfl, .nil⟩
        · cases y'
        · cases y2
        · cases y'
      · rcases eAt n1 _ z1 with ⟨u1, y'⟩ | ⟨_, y'⟩ | ⟨t, d', _, _, y'⟩ | y' <;> first | (cases y'; done) | skip
        rcases eAt n2 _ z2 with ⟨u2, y''⟩ | ⟨_, y''⟩ | ⟨t, d', _, _, y''⟩ | y'' <;> first | (cases y''; done) | skip
        exact absurd (u1.trans u2.symm) dd
      · rcases eAt i _ z with ⟨_, y'⟩ | ⟨u, y'⟩ | ⟨t, d', _, _, y'⟩ | y' <;> first | (cases y'; done) | skip
        cases y'
        subst u
        exact ⟨.ref a, by rw [sEq]; rfl, .rf j⟩
      · rcases eAt i _ z with ⟨_, y'⟩ | ⟨_, y'⟩ | ⟨t, d', _, _, y'⟩ | y' <;> cases y'
    have hc := hm a ds d h3
    unfold callI at hc
    split at hc
    · rename_i E' e
      split at hc
      · rename_i qa y fs rs en
        by_cases hq : qa = some a
        · rw [if_pos hq] at hc
          refine T.si hid _ _ _ _ _ (.nx E') _ r0 e fun O' σ' H' r' => ?_
          obtain ⟨θ, ω, N'⟩ := r'.nod
          have ha : θ j = a := by
            obtain ⟨dx', xs, g0, _⟩ := (N'.nd j _ en).2
            exact g0 a hq
          have tv := N'.nodeT en hc
          rw [ha] at tv
          exact k0 H' (hB.trans r'.ex) (tv.show fun p z => (r'.own p z).1)
        · rw [if_neg hq] at hc
          cases hc
      · cases hc
    · cases hc
theorem calI_of {x q : Str} {st : Stmt} {ps : List Str} {k n : Nat} {m : List D → Option D} (F : StandsI K mg x q st)
    (hb : ∀ (kV doc pm : Value) (an : Option Addr) (cdv ct : Value) (us : List Value), us.length = ps.length → bindArgs (PySem.W.fnOf "__init__" q (defArgs st) (defBody st) (defScope st) .none kV doc pm an cdv ct) ⟨us, []⟩ = pure (ps.zip us))
    (h : ∀ {f : Addr} {fd : FuncData}, FunD K "__init__" q (defArgs st) (defBody st) (defScope st) [] [] f fd → FnOk P w K mg base CX0 k f fd ps (spI K n x m)) : CalI P w K mg base x k n m := by
  obtain ⟨f, fd, g, M, F⟩ := F.ex
  refine ⟨f, fd, ps, g, M, h F, ?_⟩
  obtain ⟨oc, od, dV, kV, doc, pm, an, cdv, ct, osl, rfl, lk, hcd, hd, _⟩ := F.ex
  rcases hd with ⟨_, rfl⟩ | ⟨z, _⟩
  · exact .all (hb kV doc pm an cdv ct)
  · exact absurd rfl z
end
section
variable {X : Cx} {x : Str} {k n : Nat} {m : List D → Option D} {e : Expr} {es : List Expr} {ma : En → Option (List D)} {p pos : Pos} {P : Program} {w : World} {K : PySem.W.Frag} {mg : Str → Option Value} {base : Heap} {A : Around}
/-- C(..): frozen at once; arguments may be owned lists -/
theorem de_make (G : CalI P w K mg base x k n m) (hr : Room (k + 1) A) (ha : DAL X (e :: es) ma) (hA : X.A = A := by rfl) (hP : X.prog = P := by rfl) (hw : X.w = w := by rfl) (hK : X.K = K := by rfl) (hmg : X.mg = mg := by rfl) (hba : X.base = base := by rfl) (hg : Gl X x := by rfl) (hdb : (x == ("__debug__" : Str)) = false := by decide) (he : starEach (e :: es) X.env = (false, eval e X.env) :: starEach es X.env := by rfl) (hpl : (backTo pos (starEach es X.env)).any (·.1) = false := by rfl) :
    DE X (.Call (.Name x p) (e :: es) [] pos) (mCallL n m ma) := by
  subst hA hP hw hK hmg hba
  obtain ⟨f, fd, ps, g1, g2, g3, g4⟩ := G.ex
  obtain ⟨ta, a1, a2⟩ := ha
  refine ⟨_, pe_make g2 g3 hr hg g1 g4 .nil pass0 a1 hdb he hpl, fun hid O B H σ E d re hm Q q => ?_⟩
  obtain ⟨ds, h1, hm⟩ := bind_some hm
  by_cases hl : ds.length = n
  · rw [if_pos hl] at hm
    obtain ⟨d', h2, hm⟩ := bind_some hm
    obtain ⟨h3, rfl⟩ := ite_some hm
    refine a2 hid O B H σ E ds re h1 _ fun vs H1 e1 r1 => fun a dx ha hdx ne => ?_
    rw [List.append_nil]
    exact ⟨lsW hid O H1, H1, a, dx, vs, ds, d', rfl, ha, hdx, ne, rfl, lsW_m (re.grow e1), r1, hl, h2, fun H2 e2 r2 => ⟨rfl, q _ H2 (e1.trans e2) (nol_rp (lsW_hW e2) _ h3 r2)⟩⟩
  · rw [if_neg hl] at hm
    cases hm
end
end Sx

set_option Elab.async false
set_option linter.all false
set_option maxRecDepth 100000
set_option maxHeartbeats 2000000
namespace Sx
open PySem L2
theorem mulOk_l {i j : Int} (h : -18446744073709551616 < i ∧ i < 18446744073709551616) : mulOk i j = true := by
  unfold mulOk
  rw [Bool.or_eq_true_iff]
  left
  rw [decide_eq_true_eq]
  omega
theorem mulOk_r {i j : Int} (h : -18446744073709551616 < j ∧ j < 18446744073709551616) : mulOk i j = true := by
  unfold mulOk
  rw [Bool.or_eq_true_iff]
  right
  rw [decide_eq_true_eq]
  omega
theorem divOk_c {i j : Int} (h : 0 < j ∧ j < 1073741824) : divOk i j = true := by
  unfold divOk
  rw [decide_eq_true h.1, decide_eq_true h.2]
  rfl
theorem powOk_c {i j : Int} (h : 0 ≤ j ∧ j ≤ 1000000) (h2 : i.natAbs < 18446744073709551616) : powOk i j = true := by
  unfold powOk
  rw [decide_eq_true h.1, decide_eq_true h.2, decide_eq_true h2]
  rfl
theorem mul1 (a : Int) : mulOk 48271 a = true := mulOk_l (by omega)
theorem runFor_inv {mg : En → D → Option En} {mb : En → Option Out} (I : Nat → En → Prop) : ∀ (ds : List D) (i : Nat) (E : En), I i E →
    (∀ (j : Nat) (d : D) (E : En), ds[j]? = some d → I (i + j) E → ∃ E1 E2, mg E d = some E1 ∧ (mb E1 = some (.nx E2) ∨ mb E1 = some (.ct E2)) ∧ I (i + j + 1) E2) → ∃ E', runFor mg mb ds E = some (.nx E') ∧ I (i + ds.length) E'
  | [], i, E, h, _ => ⟨E, rfl, h⟩
  | d :: ds, i, E, h, hs => by
    obtain ⟨E1, E2, h1, h2, h3⟩ := hs 0 d E rfl h
    obtain ⟨E', h4, h5⟩ := runFor_inv (mg := mg) (mb := mb) I ds (i + 1) E2 h3 fun j d' E' hj hI => by
      have e : i + 1 + j = i + (j + 1) := by omega
      rw [e] at hI ⊢
      exact hs (j + 1) d' E' (by simpa using hj) hI
    refine ⟨E', ?_, by rw [List.length_cons, show i + (ds.length + 1) = i + 1 + ds.length by omega]; exact h5⟩
    show (mg E d).bind _ = _
    rw [h1]
    show (mb E1).bind _ = _
    rcases h2 with h2 | h2 <;> rw [h2] <;> exact h4
/-- each turn goes on or gives back -/
theorem runFor_find {mg : En → D → Option En} {mb : En → Option Out} (I : Nat → En → Prop) (R : Nat → D → Prop) : ∀ (ds : List D) (i : Nat) (E : En), I i E →
    (∀ (j : Nat) (d : D) (E : En), ds[j]? = some d → I (i + j) E → ∃ E1, mg E d = some E1 ∧ ((∃ E2, (mb E1 = some (.nx E2) ∨ mb E1 = some (.ct E2)) ∧ I (i + j + 1) E2) ∨ ∃ r, mb E1 = some (.rt r) ∧ R (i + j) r)) →
    (∃ E', runFor mg mb ds E = some (.nx E') ∧ I (i + ds.length) E') ∨ ∃ j r, runFor mg mb ds E = some (.rt r) ∧ j < ds.length ∧ R (i + j) r
  | [], i, E, h, _ => .inl ⟨E, rfl, h⟩
  | d :: ds, i, E, h, hs => by
    obtain ⟨E1, h1, ⟨E2, h2, h3⟩ | ⟨r, h2, h3⟩⟩ := hs 0 d E rfl h
    · have run : runFor mg mb (d :: ds) E = runFor mg mb ds E2 := by
        show (mg E d).bind _ = _
        rw [h1]
        show (mb E1).bind _ = _
        rcases h2 with h2 | h2 <;> rw [h2] <;> rfl
      rw [run]
      rcases runFor_find (mg := mg) (mb := mb) I R ds (i + 1) E2 h3 fun j d' E' hj hI => by
        have e : i + 1 + j = i + (j + 1) := by omega
        rw [e] at hI ⊢
        exact hs (j + 1) d' E' (by simpa using hj) hI with ⟨E', h4, h5⟩ | ⟨j, r, h4, h5, h6⟩
      · exact .inl ⟨E', h4, by rw [List.length_cons, show i + (ds.length + 1) = i + 1 + ds.length by omega]; exact h5⟩
      · exact .inr ⟨j + 1, r, h4, by rw [List.length_cons]; omega, by rw [show i + (j + 1) = i + 1 + j by omega]; exact h6⟩
    · refine .inr ⟨0, r, ?_, by rw [List.length_cons]; omega, h3⟩
      show (mg E d).bind _ = _
      rw [h1]
      show (mb E1).bind _ = _
      rw [h2]
      rfl
theorem runComp_enc {α β : Type} {mg : En → D → Option En} {mt : En → Option Bool} {me : En → Option D} {E0 : En} (f : α → D) (g : β → D) (P : α → β → Prop) : ∀ (xs : List α),
    (∀ x ∈ xs, ∃ E1 y, mg E0 (f x) = some E1 ∧ mt E1 = some true ∧ me E1 = some (g y) ∧ P x y) → ∃ ys : List β, runComp mg mt me E0 (xs.map f) = some (ys.map g) ∧ Paired P xs ys
  | [], _ => ⟨[], rfl, .nil⟩
  | x :: xs, h => by
    obtain ⟨E1, y, h1, h2, h3, h4⟩ := h x (List.mem_cons_self ..)
    obtain ⟨ys, h5, h6⟩ := runComp_enc (mg := mg) (mt := mt) (me := me) (E0 := E0) f g P xs fun z hz => h z (List.mem_cons_of_mem _ hz)
    refine ⟨y :: ys, ?_, .cons h4 h6⟩
    show (mg E0 (f x)).bind _ = _
    rw [h1]
    show (mt E1).bind _ = _
    rw [h2]
    show (if true = true then (me E1).bind (fun r => (runComp mg mt me E0 (xs.map f)).map (r :: ·)) else runComp mg mt me E0 (xs.map f)) = _
    rw [if_pos rfl, h3]
    show (runComp mg mt me E0 (xs.map f)).map (fun rs => g y :: rs) = _
    rw [h5]
    rfl
theorem runComp_filt {α β : Type} {mg : En → D → Option En} {mt : En → Option Bool} {me : En → Option D} {E0 : En} (f : α → D) (g : α → D) (p : α → Bool) : ∀ (xs : List α),
    (∀ x ∈ xs, ∃ E1, mg E0 (f x) = some E1 ∧ mt E1 = some (p x) ∧ (p x = true → me E1 = some (g x))) → runComp mg mt me E0 (xs.map f) = some ((xs.filter p).map g)
  | [], _ => rfl
  | x :: xs, h => by
    obtain ⟨E1, h1, h2, h3⟩ := h x (List.mem_cons_self ..)
    have h5 := runComp_filt (β := β) (mg := mg) (mt := mt) (me := me) (E0 := E0) f g p xs fun z hz => h z (List.mem_cons_of_mem _ hz)
    show (mg E0 (f x)).bind _ = _
    rw [h1]
    show (mt E1).bind _ = _
    rw [h2]
    show (if p x = true then (me E1).bind (fun r => (runComp mg mt me E0 (xs.map f)).map (r :: ·)) else runComp mg mt me E0 (xs.map f)) = _
    by_cases hp : p x = true
    · rw [if_pos hp, h3 hp, List.filter_cons, if_pos hp]
      show (runComp mg mt me E0 (xs.map f)).map (fun rs => g x :: rs) = _
      rw [h5]
      rfl
    · rw [if_neg hp, List.filter_cons, if_neg hp]
      exact h5
theorem Paired.len {α β : Type} {P : α → β → Prop} : ∀ {xs : List α} {ys : List β}, Paired P xs ys → xs.length = ys.length
  | _, _, .nil => rfl
  | _, _, .cons _ t => congrArg Nat.succ (Paired.len t)
theorem Paired.mem {α β : Type} {P : α → β → Prop} : ∀ {xs : List α} {ys : List β} {y : β}, Paired P xs ys → y ∈ ys → ∃ x ∈ xs, P x y
  | _, _, _, .nil, h => by cases h
  | _, _, y, .cons r t, h => by
    rcases List.mem_cons.mp h with e | e
    · subst e
      exact ⟨_, List.mem_cons_self .., r⟩
    · obtain ⟨x, h1, h2⟩ := Paired.mem t e
      exact ⟨x, List.mem_cons_of_mem _ h1, h2⟩
theorem Paired.at {α β : Type} {P : α → β → Prop} : ∀ {xs : List α} {ys : List β} {i : Nat} {x : α} {y : β}, Paired P xs ys → xs[i]? = some x → ys[i]? = some y → P x y
  | _, _, _, _, _, .nil, h, _ => by simp at h
  | _, _, 0, _, _, .cons r t, h, g => by
    simp at h g
    subst h
    subst g
    exact r
  | _, _, i + 1, _, _, .cons r t, h, g => Paired.at (i := i) t (by simpa using h) (by simpa using g)
theorem atI_nat' {α : Type} {xs : List α} {i : Int} (h0 : 0 ≤ i) (h : i < xs.length) : ∃ x, atI xs i = some x ∧ xs[i.toNat]? = some x := by
  have hl : i.toNat < xs.length := by omega
  refine ⟨xs[i.toNat], ?_, List.getElem?_eq_getElem hl⟩
  unfold atI ixN
  rw [if_pos h0, if_pos h]
  exact List.getElem?_eq_getElem hl
theorem atI_mapD {α : Type} {f : α → D} {xs : List α} {i : Int} (h0 : 0 ≤ i) (h : i < xs.length) : ∃ x, atI (xs.map f) i = some (f x) ∧ xs[i.toNat]? = some x := by
  obtain ⟨x, h1, h2⟩ := atI_nat' h0 h
  exact ⟨x, by rw [atI_map, h1]; rfl, h2⟩
theorem range_at {lo : Int} {n j : Nat} {d : D} (h : (rangeD lo n)[j]? = some d) : d = .int (lo + j) ∧ j < n := by
  have hj : j < n := by
    have := (List.getElem?_eq_some_iff.mp h).1
    rwa [rangeD_len] at this
  rw [rangeD_get hj] at h
  exact ⟨(Option.some.inj h).symm, hj⟩
theorem ints_at {ns : List Int} {j : Nat} {d : D} (h : (ns.map D.int)[j]? = some d) : ∃ c, d = .int c ∧ ns[j]? = some c := by
  rw [List.getElem?_map] at h
  obtain ⟨c, h1, rfl⟩ := map_some h
  exact ⟨c, rfl, h1⟩
theorem map_at {α : Type} {f : α → D} {xs : List α} {j : Nat} {d : D} (h : (xs.map f)[j]? = some d) : ∃ x, d = f x ∧ xs[j]? = some x := by
  rw [List.getElem?_map] at h
  obtain ⟨c, h1, rfl⟩ := map_some h
  exact ⟨c, rfl, h1⟩
end Sx

set_option Elab.async false
set_option linter.all false
set_option maxRecDepth 100000
set_option maxHeartbeats 2000000
namespace Sx
open PySem L2
mutual
def okD : D → Bool
  | .str x => PyData.strOk x
  | .lst ds => okDs ds
  | .tup ds => okDs ds
  | .dct _ _ => false
  | .obj _ _ _ => false
  | _ => true
def okDs : List D → Bool
  | [] => true
  | d :: ds => okD d && okDs ds
end
mutual
def depD : D → Nat
  | .lst ds => depDs ds + 1
  | .tup ds => depDs ds + 1
  | .scr _ => 1
  | .dct _ _ => PyData.depth (.dict [])
  | .obj _ _ _ => PyData.depth (.dict [])
  | _ => 0
def depDs : List D → Nat
  | [] => 0
  | d :: ds => max (depD d) (depDs ds)
end
theorem ints_eqv : ∀ ns : List Int, PyData.eqvAll (ns.map .int) (ns.map .int) = true
  | [] => by rw [List.map_nil, PyData.eqvAll]
  | n :: ns => by rw [List.map_cons, PyData.eqvAll, PyData.eqv, ints_eqv ns]; simp
theorem ints_lay : ∀ ns : List Int, PyData.canLayAll0 (ns.map .int) = true
  | [] => by rw [List.map_nil, PyData.canLayAll0]
  | n :: ns => by rw [List.map_cons, PyData.canLayAll0, PyData.canLay0, ints_lay ns]; rfl
theorem ints_dep : ∀ ns : List Int, PyData.depthAll (ns.map .int) = 0
  | [] => by rw [List.map_nil, PyData.depthAll]
  | n :: ns => by rw [List.map_cons, PyData.depthAll, PyData.depth, ints_dep ns]; rfl
mutual
theorem py_eqv : ∀ d : D, okD d = true → PyData.eqv d.py d.py = true
  | .non, _ => by rw [D.py, PyData.eqv]
  | .bl b, _ => by rw [D.py, PyData.eqv]; simp
  | .int i, _ => by rw [D.py, PyData.eqv]; simp
  | .str x, _ => by rw [D.py, PyData.eqv]; simp
  | .lst ds, h => by rw [okD] at h; rw [D.py, PyData.eqv]; exact pys_eqv ds h
  | .tup ds, h => by rw [okD] at h; rw [D.py, PyData.eqv]; exact pys_eqv ds h
  | .scr ns, _ => by rw [D.py, PyData.eqv]; exact ints_eqv ns
  | .dct _ _, h => by rw [okD] at h; cases h
  | .obj _ _ _, h => by rw [okD] at h; cases h
theorem pys_eqv : ∀ ds : List D, okDs ds = true → PyData.eqvAll (D.pys ds) (D.pys ds) = true
  | [], _ => by rw [D.pys, PyData.eqvAll]
  | d :: ds, h => by
    rw [okDs] at h
    obtain ⟨h1, h2⟩ := Bool.and_eq_true_iff.mp h
    rw [D.pys, PyData.eqvAll, py_eqv d h1, pys_eqv ds h2]
    rfl
end
mutual
theorem py_lay : ∀ d : D, okD d = true → PyData.canLay0 d.py = true
  | .non, _ => by rw [D.py, PyData.canLay0]
  | .bl b, _ => by rw [D.py, PyData.canLay0]
  | .int i, _ => by rw [D.py, PyData.canLay0]
  | .str x, h => by rw [okD] at h; rw [D.py, PyData.canLay0]; exact h
  | .lst ds, h => by rw [okD] at h; rw [D.py, PyData.canLay0]; exact pys_lay ds h
  | .tup ds, h => by rw [okD] at h; rw [D.py, PyData.canLay0]; exact pys_lay ds h
  | .scr ns, _ => by rw [D.py, PyData.canLay0]; exact ints_lay ns
  | .dct _ _, h => by rw [okD] at h; cases h
  | .obj _ _ _, h => by rw [okD] at h; cases h
theorem pys_lay : ∀ ds : List D, okDs ds = true → PyData.canLayAll0 (D.pys ds) = true
  | [], _ => by rw [D.pys, PyData.canLayAll0]
  | d :: ds, h => by
    rw [okDs] at h
    obtain ⟨h1, h2⟩ := Bool.and_eq_true_iff.mp h
    rw [D.pys, PyData.canLayAll0, py_lay d h1, pys_lay ds h2]
    rfl
end
mutual
theorem py_dep : ∀ d : D, PyData.depth d.py = depD d
  | .non => by rw [D.py, PyData.depth]; rfl
  | .bl b => by rw [D.py, PyData.depth]; rfl
  | .int i => by rw [D.py, PyData.depth]; rfl
  | .str x => by rw [D.py, PyData.depth]; rfl
  | .lst ds => by rw [D.py, PyData.depth, depD, pys_dep ds]
  | .tup ds => by rw [D.py, PyData.depth, depD, pys_dep ds]
  | .scr ns => by rw [D.py, PyData.depth, depD, ints_dep ns]
  | .dct _ _ => by rw [D.py, depD]
  | .obj _ _ _ => by rw [D.py, depD]
theorem pys_dep : ∀ ds : List D, PyData.depthAll (D.pys ds) = depDs ds
  | [] => by rw [D.pys, PyData.depthAll, depDs]
  | d :: ds => by rw [D.pys, PyData.depthAll, depDs, py_dep d, pys_dep ds]
end
theorem shaped_of {d : D} (h : okD d = true) (hd : depD d ≤ 64) : SeqAt.shaped d.py = true := by
  unfold SeqAt.shaped
  rw [py_lay d h, py_dep d, decide_eq_true hd]
  rfl
theorem eqB_lst {ds : List D} (h : okDs ds = true) (hd : depDs ds ≤ 60) : eqB (.lst ds) (.lst ds) = some true := by
  have s := shaped_of (d := .lst ds) (by rw [okD]; exact h) (by rw [depD]; omega)
  show (if SeqAt.shaped (D.lst ds).py = true ∧ SeqAt.shaped (D.lst ds).py = true then some (PyData.eqv (D.lst ds).py (D.lst ds).py) else none) = _
  rw [if_pos ⟨s, s⟩, py_eqv]
  rw [okD]
  exact h
theorem okDs_map {α : Type} {f : α → D} : ∀ {xs : List α}, (∀ x ∈ xs, okD (f x) = true) → okDs (xs.map f) = true
  | [], _ => by rw [List.map_nil, okDs]
  | x :: xs, h => by
    rw [List.map_cons, okDs, h x (List.mem_cons_self ..), okDs_map fun y hy => h y (List.mem_cons_of_mem _ hy)]
    rfl
theorem depDs_map {α : Type} {f : α → D} {n : Nat} : ∀ {xs : List α}, (∀ x ∈ xs, depD (f x) ≤ n) → depDs (xs.map f) ≤ n
  | [], _ => by rw [List.map_nil, depDs]; omega
  | x :: xs, h => by
    rw [List.map_cons, depDs]
    have := h x (List.mem_cons_self ..)
    have := depDs_map fun y hy => h y (List.mem_cons_of_mem _ hy)
    omega
theorem eqB_map {α : Type} {f : α → D} {xs : List α} (h : ∀ x ∈ xs, okD (f x) = true) (hd : ∀ x ∈ xs, depD (f x) ≤ 60) : eqB (.lst (xs.map f)) (.lst (xs.map f)) = some true := eqB_lst (okDs_map h) (depDs_map hd)
theorem kit_bb : kitB "bool" "bool" = some true := by decide +kernel
theorem kit_ii : kitB "int" "int" = some true := by decide +kernel
theorem kit_ib : kitB "int" "bool" = some false := by decide +kernel
end Sx

set_option Elab.async false
set_option linter.all false
set_option maxRecDepth 100000
set_option maxHeartbeats 4000000
namespace Sx
open PySem L2
def cutG {α : Type} (xs : List α) (lo hi : Option Int) : List α := (xs.drop (HT.sIx xs.length 0 lo)).take (HT.sIx xs.length xs.length hi - HT.sIx xs.length 0 lo)
theorem cutD_map {α : Type} (f : α → D) (xs : List α) (lo hi : Option Int) : cutD (xs.map f) lo hi = (cutG xs lo hi).map f := by
  unfold cutD cutG
  rw [List.length_map, List.map_take, List.map_drop]
theorem sIx_pos {n d : Nat} {i : Int} (h : 0 ≤ i) : HT.sIx n d (some i) = min i.toNat n := by
  obtain ⟨k, rfl⟩ : ∃ k : Nat, i = k := ⟨i.toNat, by omega⟩
  exact HT.sIx_nat n d k
theorem cutG_ab {α : Type} {xs : List α} {a b : Int} (h : 0 ≤ a ∧ a ≤ b ∧ b ≤ xs.length) : cutG xs (some a) (some b) = (xs.drop a.toNat).take (b - a).toNat := by
  unfold cutG
  rw [sIx_pos h.1, sIx_pos (by omega)]
  congr 1
  · omega
  · congr 1
    omega
theorem seq_nx {a b : En → Option Out} {E : En} (E1 : En) (h : a E = some (.nx E1)) : mSeq a b E = b E1 := by
  show (a E).bind _ = _
  rw [h]
  rfl
theorem seq_rt {a b : En → Option Out} {E : En} {d : D} (h : a E = some (.rt d)) : mSeq a b E = some (.rt d) := by
  show (a E).bind _ = _
  rw [h]
  rfl
def run (o : Option Out) : Option D := match o with
  | some (.rt d) => some d
  | some (.rf ds) => some (.lst ds)
  | some (.nx _) => some .non
  | _ => none
theorem mat_nx {a b : En → Option Out} {E : En} {d : D} (E1 : En) (h : a E = some (.nx E1)) (k : run (b E1) = some d) : run (mSeq a b E) = some d := by
  rw [seq_nx E1 h]
  exact k
theorem mat_if {c : En → Option Bool} {a b r : En → Option Out} {E : En} {d : D} (E1 : En) (k : Bool) (h : c E = some k) (h1 : k = true → a E = some (.nx E1)) (h2 : k = false → b E = some (.nx E1)) (g : run (r E1) = some d) : run (mSeq (mIfS c a b) r E) = some d := by
  refine mat_nx E1 ?_ g
  show (c E).bind _ = _
  rw [h]
  cases k with
  | true => exact h1 rfl
  | false => exact h2 rfl
theorem mat_for {mi : En → Option (List D)} {mg : En → D → Option En} {mb r : En → Option Out} {E : En} {d : D} (ds : List D) (E1 : En) (h : mi E = some ds) (h1 : runFor mg mb ds E = some (.nx E1)) (g : run (r E1) = some d) : run (mSeq (mFor mi mg mb) r E) = some d := by
  refine mat_nx E1 ?_ g
  show (mi E).bind _ = _
  rw [h]
  exact h1
theorem Paired.fn {α β : Type} {f : α → β} : ∀ {xs : List α} {ys : List β}, Paired (fun a b => b = f a) xs ys → ys = xs.map f
  | _, _, .nil => rfl
  | _, _, .cons h t => by rw [h, Paired.fn t]; rfl
theorem rep_one {α : Type} (n : Nat) (x : α) : (List.replicate n [x]).flatten = List.replicate n x := by
  induction n with
  | zero => rfl
  | succ n ih => rw [List.replicate_succ, List.flatten_cons, ih]; rfl
end Sx

set_option Elab.async false
set_option linter.all false
set_option maxRecDepth 100000
set_option maxHeartbeats 2000000
namespace Sx
open PySem PySem.Spec PyProof.Rows L2
open Evl (Ex)
def topS (i : Nat) : Stmt := PySem.Challenge.pw_surelyseen_k26_whole_ring_or_cut.main.body.getD i (.Pass ⟨0, 0, 0, 0⟩)
def clsS (s : Stmt) (j : Nat) : Stmt := match s with
  | .ClassDef _ _ _ b _ _ _ _ _ _ _ => b.getD j (.Pass ⟨0, 0, 0, 0⟩)
  | s => s
section
variable {P : Program} {w : World} {K : PySem.W.Frag} {mg : Str → Option Value} {base : Heap}
abbrev s_init_Net : Stmt := clsS (topS 4) 0
abbrev N_init_Net : List Str := ["self", "nodes", "arcs", "tail", "head", "0n0"]
theorem sc_init_Net : FnScope N_init_Net ["self", "nodes", "arcs"] (defScope s_init_Net) := ⟨rfl, rfl, rfl, by decide +kernel, rfl, by decide +kernel, by decide +kernel⟩
def b_init_Net : En → Option Out :=
      (mSeq (mFld 0 "Net" "nodes" (mVar 1))
      (mSeq (mFld 0 "Net" "arcs" (mUn tupleD (mList (mComp [3, 4] (fun E => ((mVarT 2) E).bind lstOf) (gTupM 2 (gsCons (gM 3) (gsCons (gM 4) gsNil))) mYes (mTup (mCons (mVar 3) (mCons (mVar 4) mNil)))))))
      (mSeq (mIfS (fun E => ((mBin (intOp fun i j => .bl (decide (i < j))) (mVarT 1) (mC (.int 1))) E).bind blOf) mNever mNext)
      (mFor (fun E => ((mUn (fldD "Net" "arcs") (mVarT 0)) E).bind tupOf) (gTupM 2 (gsCons (gM 3) (gsCons (gM 4) gsNil))) (mIfS (mOr (fun E => ((mBin eqD (mVarT 3) (mVarT 4)) E).bind blOf) (mOr (mNot (fun E => ((mChain (intOp fun i j => .bl (decide (i ≤ j))) (intOp fun i j => .bl (decide (i < j))) (mC (.int 0)) (mVarT 3) (mVarT 1)) E).bind blOf)) (mNot (fun E => ((mChain (intOp fun i j => .bl (decide (i ≤ j))) (intOp fun i j => .bl (decide (i < j))) (mC (.int 0)) (mVarT 4) (mVarT 1)) E).bind blOf)))) mNever mNext)))))
def mb_Net (a : Addr) : List D → Option D := callI 6 5 "Net" b_init_Net a
def encA (p : Int × Int) : D := .tup [.int p.1, .int p.2]
def AOk (n : Int) (p : Int × Int) : Prop := p.1 ≠ p.2 ∧ (0 ≤ p.1 ∧ p.1 < n) ∧ (0 ≤ p.2 ∧ p.2 < n)
def arcOk (n : Int) : D → Bool
  | .tup [.int t, .int h] => decide (t ≠ h ∧ (0 ≤ t ∧ t < n) ∧ (0 ≤ h ∧ h < n))
  | _ => false
def netD (n : Int) (as : List D) : D := .obj "Net" ["nodes", "arcs"] [.int n, .tup as]
def mi_Net : List D → Option D
  | [.int n, .lst as] => if 1 ≤ n ∧ as.length ≤ 100000 ∧ as.all (arcOk n) = true then some (netD n as) else none
  | _ => none
theorem arcOk_some {n : Int} {d : D} (h : arcOk n d = true) : ∃ p, d = encA p ∧ AOk n p := by
  unfold arcOk at h
  split at h
  · have h' := of_decide_eq_true h
    exact ⟨(_, _), rfl, h'⟩
  · cases h
theorem arcs_some {n : Int} : ∀ {as : List D}, as.all (arcOk n) = true → ∃ ps : List (Int × Int), as = ps.map encA ∧ ∀ p ∈ ps, AOk n p
  | [], _ => ⟨[], rfl, fun p h => (nomatch h)⟩
  | d :: as, h => by
    rw [List.all_cons, Bool.and_eq_true] at h
    obtain ⟨p, rfl, hp⟩ := arcOk_some h.1
    obtain ⟨ps, rfl, hs⟩ := arcs_some h.2
    exact ⟨p :: ps, rfl, fun q hq => by
      rcases List.mem_cons.mp hq with e | e
      · rw [e]; exact hp
      · exact hs q e⟩
theorem ne_an : ¬ (("arcs" : Str) = "nodes") := by decide +kernel
theorem ne_na : ¬ (("nodes" : Str) = "arcs") := by decide +kernel
theorem hm_Net : ∀ a ds d, mi_Net ds = some d → mb_Net a ds = some d := fun a ds d h => by
  unfold mi_Net at h
  split at h
  · rename_i n as
    obtain ⟨⟨h1, h2, h3⟩, rfl⟩ := ite_some h
    obtain ⟨ps, rfl, h4⟩ := arcs_some h3
    obtain ⟨qs, c1, c2⟩ := runComp_enc (mg := gTupM 2 (gsCons (gM 3) (gsCons (gM 4) gsNil))) (mt := mYes) (me := mTup (mCons (mVar 3) (mCons (mVar 4) mNil))) (E0 := [.rt (.rf 5), .fz (.int n), .fz (.lst (ps.map encA)), .un, .un, .nd (.obj (some a) "Net" ["nodes"] [.fz (.int n)])]) encA encA (fun a b => b = a) ps (fun p _ => ⟨_, p, rfl, rfl, rfl, rfl⟩)
    have c2 : qs = ps := by rw [Paired.fn c2]; exact List.map_id _
    subst c2
    unfold mb_Net callI b_init_Net
    generalize hmb : (mIfS (mOr (fun E => ((mBin eqD (mVarT 3) (mVarT 4)) E).bind blOf) _) mNever mNext) = mb
    obtain ⟨E', g1, x, y, rfl⟩ := runFor_inv (mg := gTupM 2 (gsCons (gM 3) (gsCons (gM 4) gsNil))) (mb := mb) (fun _ E => ∃ x y, E = [.rt (.rf 5), .fz (.int n), .fz (.lst (qs.map encA)), x, y, .nd (.obj (some a) "Net" ["nodes", "arcs"] [.fz (.int n), .fz (.tup (qs.map encA))])]) (qs.map encA) 0 [.rt (.rf 5), .fz (.int n), .fz (.lst (qs.map encA)), .un, .un, .nd (.obj (some a) "Net" ["nodes", "arcs"] [.fz (.int n), .fz (.tup (qs.map encA))])] ⟨_, _, rfl⟩ (fun j d E hd hI => by
      obtain ⟨x, y, rfl⟩ := hI
      obtain ⟨p, rfl, hp⟩ := map_at hd
      obtain ⟨o1, o2, o3⟩ := h4 p (List.mem_of_getElem? hp)
      refine ⟨_, _, rfl, .inl ?_, .fz (.int p.1), .fz (.int p.2), rfl⟩
      subst hmb
      simp [o1, o2, o3])
    simp at c1 h2 g1
    have hn : ¬ n < 1 := by omega
    simp [hn, c1, h2, g1, atK, netD, ne_an, ne_na, fldD]
  · cases h
theorem fn_init_Net {f : Addr} {fd : FuncData} (F : FunD K "__init__" "Net.__init__" (defArgs s_init_Net) (defBody s_init_Net) (defScope s_init_Net) [] [] f fd) (k_Net : Cls K (He.ga K "Net")) (n_Net_nodes : NoAttr K (He.ga K "Net") "nodes") (n_Net_arcs : NoAttr K (He.ga K "Net") "arcs") (h_tuple : mg "tuple" = none) : FnOk P w K mg base CX0 1 f fd ["self", "nodes", "arcs"] (spI K 2 "Net" mi_Net) :=
  fnI_mk (N := N_init_Net) (m := b_init_Net) (j := 5) F sc_init_Net rfl (by decide) (by decide) (by decide) hm_Net (fun cdv A outer s H E hr =>
      (dss_cons (ds_fld 0 "Net" k_Net n_Net_nodes (de_var 1))
      (dss_cons (ds_fld 0 "Net" k_Net n_Net_arcs (de_tuple h_tuple (DF.t (df_lc (own := [("tail", 3), ("head", 4)]) rfl sc_init_Net.nd (dit_list (dt_var 2)) (blkOk_by (N := N_init_Net) (sc := defScope s_init_Net) (by decide +kernel)) (by decide) (fun _ _ _ _ _ => (dg_tup rfl (dgs_cons (dg_name 3 sc_init_Net.nd) (dgs_cons (dg_name 4 sc_init_Net.nd) dgs_nil)))) (fun _ _ _ _ _ => dts_nil) (fun _ _ _ _ _ => (de_tup (da_cons (de_var 3) (da_cons (de_var 4) da_nil))))))))
      (dss_cons (ds_if (db_cmp op_lt od_lt (dt_var 1) (DE.t de_int)) (dss_one ds_never) dss_nil)
      (dss_one (ds_for PassesOwn.never rfl (di_tup (de_fld "Net" k_Net n_Net_arcs (dt_var 0))) (dg_tup rfl (dgs_cons (dg_name 3 sc_init_Net.nd) (dgs_cons (dg_name 4 sc_init_Net.nd) dgs_nil))) (dss_one (ds_if (DW.toB (dw_or (db_cmp (op_eqAll hr) od_eq (dt_var 3) (dt_var 4)) (dw_or (db_not (db_chain op_le od_le op_lt od_lt (DE.t de_int) (dt_var 3) (dt_var 1))) (dw_or1 (db_not (db_chain op_le od_le op_lt od_lt (DE.t de_int) (dt_var 4) (dt_var 1))))))) (dss_one ds_never) dss_nil))))))))
theorem bd_init_Net (kV doc pm : Value) (an : Option Addr) (cdv ct : Value) (us : List Value) (hl : us.length = ["self", "nodes", "arcs"].length) : bindArgs (PySem.W.fnOf "__init__" "Net.__init__" (defArgs s_init_Net) (defBody s_init_Net) (defScope s_init_Net) .none kV doc pm an cdv ct) ⟨us, []⟩ = pure ((["self", "nodes", "arcs"] : List Str).zip us) := match us, hl with | [_, _, _], _ => rfl
theorem calI_init_Net (F : StandsI K mg "Net" "Net.__init__" s_init_Net) (k_Net : Cls K (He.ga K "Net")) (n_Net_nodes : NoAttr K (He.ga K "Net") "nodes") (n_Net_arcs : NoAttr K (He.ga K "Net") "arcs") (h_tuple : mg "tuple" = none) : CalI P w K mg base "Net" 1 2 mi_Net :=
  calI_of F bd_init_Net fun F => fn_init_Net F k_Net n_Net_nodes n_Net_arcs h_tuple

abbrev s_ends_of : Stmt := topS 5
abbrev N_ends_of : List Str := ["net", "arc", "direction", "tail", "head"]
theorem sc_ends_of : FnScope N_ends_of ["net", "arc", "direction"] (defScope s_ends_of) := ⟨rfl, rfl, rfl, by decide +kernel, rfl, by decide +kernel, by decide +kernel⟩
def b_ends_of : En → Option Out :=
      (mSeq (mAsg (gTupM 2 (gsCons (gM 3) (gsCons (gM 4) gsNil))) (mBin ixD (mUn (fldD "Net" "arcs") (mVarT 0)) (mVarT 1)))
      (mRet (mIf (fun E => ((mBin eqD (mVarT 2) (mC (.int 1))) E).bind blOf) (mTup (mCons (mVar 3) (mCons (mVar 4) mNil))) (mTup (mCons (mVar 4) (mCons (mVar 3) mNil))))))
def m_ends_of : List D → Option D := callM 3 5 b_ends_of
theorem fn_ends_of {f : Addr} {fd : FuncData} (F : FunD K "ends_of" "ends_of" (defArgs s_ends_of) (defBody s_ends_of) (defScope s_ends_of) [] [] f fd) (k_Net : Cls K (He.ga K "Net")) (n_Net_arcs : NoAttr K (He.ga K "Net") "arcs") : FnOk P w K mg base CX0 1 f fd ["net", "arc", "direction"] (spD K 3 m_ends_of) :=
  fn_mk (N := N_ends_of) (m := b_ends_of) F sc_ends_of rfl (fun cdv A outer s H E hr =>
      (dss_cons (ds_asg (de_ix (DE.t (de_fld "Net" k_Net n_Net_arcs (dt_var 0))) (dt_var 1)) (dg_tup rfl (dgs_cons (dg_name 3 sc_ends_of.nd) (dgs_cons (dg_name 4 sc_ends_of.nd) dgs_nil))))
      (dss_one (ds_ret (DE.t (de_if (db_cmp (op_eqAll hr) od_eq (dt_var 2) (DE.t de_int)) (de_tup (da_cons (de_var 3) (da_cons (de_var 4) da_nil))) (de_tup (da_cons (de_var 4) (da_cons (de_var 3) da_nil)))))))))
theorem bd_ends_of (kV doc pm : Value) (an : Option Addr) (cdv ct : Value) (us : List Value) (hl : us.length = ["net", "arc", "direction"].length) : bindArgs (PySem.W.fnOf "ends_of" "ends_of" (defArgs s_ends_of) (defBody s_ends_of) (defScope s_ends_of) .none kV doc pm an cdv ct) ⟨us, []⟩ = pure ((["net", "arc", "direction"] : List Str).zip us) := match us, hl with | [_, _, _], _ => rfl
theorem cal_ends_of (F : Stands K mg "ends_of" s_ends_of) (k_Net : Cls K (He.ga K "Net")) (n_Net_arcs : NoAttr K (He.ga K "Net") "arcs") : Cal P w K mg base "ends_of" 1 3 m_ends_of :=
  cal_of F bd_ends_of fun F => fn_ends_of F k_Net n_Net_arcs

abbrev s_links_of : Stmt := topS 6
abbrev N_links_of : List Str := ["net", "found", "arc", "_", "tail", "head", "0n0"]
theorem sc_links_of : FnScope N_links_of ["net"] (defScope s_links_of) := ⟨rfl, rfl, rfl, by decide +kernel, rfl, by decide +kernel, by decide +kernel⟩
def b_links_of : En → Option Out :=
      (mSeq (mSetLL 1 6 (fun E => ((mUn (fldD "Net" "nodes") (mVarT 0)) E).bind rg1))
      (mSeq (mFor (mEnumT (mUn (fldD "Net" "arcs") (mVarT 0))) (gTupM 2 (gsCons (gM 2) (gsCons (gTupM 2 (gsCons (gM 4) (gsCons (gM 5) gsNil))) gsNil))) (mSeq (mLLApp 1 (mVar 4) (mTup (mCons (mVar 2) (mCons (mC (.int 1)) (mCons (mVar 5) mNil)))))
      (mLLApp 1 (mVar 5) (mTup (mCons (mVar 2) (mCons (mUn negD (mC (.int 1))) (mCons (mVar 4) mNil)))))))
      (mFrz2 1 (mRet (mVarT 1)))))
def m_links_of : List D → Option D := callM 1 7 b_links_of
theorem fn_links_of {f : Addr} {fd : FuncData} (F : FunD K "links_of" "links_of" (defArgs s_links_of) (defBody s_links_of) (defScope s_links_of) [] [] f fd) (k_Net : Cls K (He.ga K "Net")) (n_Net_nodes : NoAttr K (He.ga K "Net") "nodes") (n_Net_arcs : NoAttr K (He.ga K "Net") "arcs") (h_range : mg "range" = none) (h_enumerate : mg "enumerate" = none) : FnOk P w K mg base CX0 1 f fd ["net"] (spD K 1 m_links_of) :=
  fn_mk (N := N_links_of) (m := b_links_of) F sc_links_of rfl (fun cdv A outer s H E hr =>
      (dss_cons (ds_setLL 1 6 3 (own := [("_", 3)]) rfl sc_links_of.nd (DI.t (di_range1 h_range (DE.t (de_fld "Net" k_Net n_Net_nodes (dt_var 0))))) (blkOk_by (N := N_links_of) (sc := defScope s_links_of) (by decide +kernel)) (by decide) (fun _ _ _ _ _ => (dg_name 3 sc_links_of.nd)) (sw_true rfl rfl rfl (by decide +kernel)))
      (dss_cons (ds_for PassesOwn.never rfl (di_enumT h_enumerate (de_fld "Net" k_Net n_Net_arcs (dt_var 0))) (dg_tup rfl (dgs_cons (dg_name 2 sc_links_of.nd) (dgs_cons (dg_tup rfl (dgs_cons (dg_name 4 sc_links_of.nd) (dgs_cons (dg_name 5 sc_links_of.nd) dgs_nil))) dgs_nil))) (dss_cons (ds_llapp 1 (de_var 4) (de_tup (da_cons (de_var 2) (da_cons de_int (da_cons (de_var 5) da_nil)))))
      (dss_one (ds_llapp 1 (de_var 5) (de_tup (da_cons (de_var 2) (da_cons (de_neg (DE.t de_int)) (da_cons (de_var 4) da_nil))))))))
      (dss_one (ds_frz2 1 (ds_ret (dt_var 1)))))))
theorem bd_links_of (kV doc pm : Value) (an : Option Addr) (cdv ct : Value) (us : List Value) (hl : us.length = ["net"].length) : bindArgs (PySem.W.fnOf "links_of" "links_of" (defArgs s_links_of) (defBody s_links_of) (defScope s_links_of) .none kV doc pm an cdv ct) ⟨us, []⟩ = pure ((["net"] : List Str).zip us) := match us, hl with | [_], _ => rfl
theorem cal_links_of (F : Stands K mg "links_of" s_links_of) (k_Net : Cls K (He.ga K "Net")) (n_Net_nodes : NoAttr K (He.ga K "Net") "nodes") (n_Net_arcs : NoAttr K (He.ga K "Net") "arcs") (h_range : mg "range" = none) (h_enumerate : mg "enumerate" = none) : Cal P w K mg base "links_of" 1 1 m_links_of :=
  cal_of F bd_links_of fun F => fn_links_of F k_Net n_Net_nodes n_Net_arcs h_range h_enumerate

abbrev s_crossing : Stmt := topS 7
abbrev N_crossing : List Str := ["net", "nodes", "within", "node", "found", "arc", "tail", "head"]
theorem sc_crossing : FnScope N_crossing ["net", "nodes"] (defScope s_crossing) := ⟨rfl, rfl, rfl, by decide +kernel, rfl, by decide +kernel, by decide +kernel⟩
def b_crossing : En → Option Out :=
      (mSeq (mSetO 2 (fun E => ((mList (mLst (mCons (mC (.bl false)) mNil))) E).bind fun x => ((mUn (fldD "Net" "nodes") (mVarT 0)) E).bind fun y => repD x y))
      (mSeq (mFor (fun E => ((mVar 1) E).bind lstOf) (gM 3) (mSub 2 (mC (.bl true)) (mVar 3)))
      (mSeq (mSetO 4 (mLst mNil))
      (mSeq (mFor (mEnumT (mUn (fldD "Net" "arcs") (mVarT 0))) (gTupM 2 (gsCons (gM 5) (gsCons (gTupM 2 (gsCons (gM 6) (gsCons (gM 7) gsNil))) gsNil))) (mSeq (mIfS (mAnd (fun E => ((mBin ixD (mVarT 2) (mVarT 6)) E).bind truD) (mNot (fun E => ((mBin ixD (mVarT 2) (mVarT 7)) E).bind truD))) (mApp 4 (mTup (mCons (mVar 5) (mCons (mC (.int 1)) mNil)))) mNext)
      (mIfS (mAnd (fun E => ((mBin ixD (mVarT 2) (mVarT 7)) E).bind truD) (mNot (fun E => ((mBin ixD (mVarT 2) (mVarT 6)) E).bind truD))) (mApp 4 (mTup (mCons (mVar 5) (mCons (mUn negD (mC (.int 1))) mNil)))) mNext)))
      (mRetO 4)))))
def m_crossing : List D → Option D := callM 2 8 b_crossing
theorem fn_crossing {f : Addr} {fd : FuncData} (F : FunD K "crossing" "crossing" (defArgs s_crossing) (defBody s_crossing) (defScope s_crossing) [] [] f fd) (k_Net : Cls K (He.ga K "Net")) (n_Net_nodes : NoAttr K (He.ga K "Net") "nodes") (n_Net_arcs : NoAttr K (He.ga K "Net") "arcs") (h_enumerate : mg "enumerate" = none) : FnOk P w K mg base CX0 1 f fd ["net", "nodes"] (spD K 2 m_crossing) :=
  fn_mk (N := N_crossing) (m := b_crossing) F sc_crossing rfl (fun cdv A outer s H E hr =>
      (dss_cons (ds_setO 2 sc_crossing.nd (df_rep (DF.t (df_lst (da_cons de_bl da_nil))) (DE.t (de_fld "Net" k_Net n_Net_nodes (dt_var 0)))))
      (dss_cons (ds_for PassesOwn.never rfl (di_list (de_var 1)) (dg_name 3 sc_crossing.nd) (dss_one (ds_sub 2 de_bl (de_var 3))))
      (dss_cons (ds_setO 4 sc_crossing.nd (df_lst da_nil))
      (dss_cons (ds_for PassesOwn.never rfl (di_enumT h_enumerate (de_fld "Net" k_Net n_Net_arcs (dt_var 0))) (dg_tup rfl (dgs_cons (dg_name 5 sc_crossing.nd) (dgs_cons (dg_tup rfl (dgs_cons (dg_name 6 sc_crossing.nd) (dgs_cons (dg_name 7 sc_crossing.nd) dgs_nil))) dgs_nil))) (dss_cons (ds_if (DW.toB (dw_and (db_tru (DE.t (de_ix (dt_var 2) (dt_var 6)))) (dw_and1 (db_not (db_tru (DE.t (de_ix (dt_var 2) (dt_var 7)))))))) (dss_one (ds_app 4 (de_tup (da_cons (de_var 5) (da_cons de_int da_nil))))) dss_nil)
      (dss_one (ds_if (DW.toB (dw_and (db_tru (DE.t (de_ix (dt_var 2) (dt_var 7)))) (dw_and1 (db_not (db_tru (DE.t (de_ix (dt_var 2) (dt_var 6)))))))) (dss_one (ds_app 4 (de_tup (da_cons (de_var 5) (da_cons (de_neg (DE.t de_int)) da_nil))))) dss_nil))))
      (dss_one (ds_retO 4)))))))
theorem bd_crossing (kV doc pm : Value) (an : Option Addr) (cdv ct : Value) (us : List Value) (hl : us.length = ["net", "nodes"].length) : bindArgs (PySem.W.fnOf "crossing" "crossing" (defArgs s_crossing) (defBody s_crossing) (defScope s_crossing) .none kV doc pm an cdv ct) ⟨us, []⟩ = pure ((["net", "nodes"] : List Str).zip us) := match us, hl with | [_, _], _ => rfl
theorem cal_crossing (F : Stands K mg "crossing" s_crossing) (k_Net : Cls K (He.ga K "Net")) (n_Net_nodes : NoAttr K (He.ga K "Net") "nodes") (n_Net_arcs : NoAttr K (He.ga K "Net") "arcs") (h_enumerate : mg "enumerate" = none) : Cal P w K mg base "crossing" 1 2 m_crossing :=
  cal_of F bd_crossing fun F => fn_crossing F k_Net n_Net_nodes n_Net_arcs h_enumerate

abbrev s__check_painting : Stmt := topS 12
abbrev N__check_painting : List Str := ["net", "rises", "falls", "asked"]
theorem sc__check_painting : FnScope N__check_painting ["net", "rises", "falls", "asked"] (defScope s__check_painting) := ⟨rfl, rfl, rfl, by decide +kernel, rfl, by decide +kernel, by decide +kernel⟩
def b__check_painting : En → Option Out :=
      (mSeq (mIfS (mOr (fun E => ((mBin neD (mUn lenD (mVarT 1)) (mUn lenD (mUn (fldD "Net" "arcs") (mVarT 0)))) E).bind blOf) (fun E => ((mBin neD (mUn lenD (mVarT 2)) (mUn lenD (mUn (fldD "Net" "arcs") (mVarT 0)))) E).bind blOf)) mNever mNext)
      (mIfS (mNot (fun E => ((mChain (intOp fun i j => .bl (decide (i ≤ j))) (intOp fun i j => .bl (decide (i < j))) (mC (.int 0)) (mVarT 3) (mUn lenD (mUn (fldD "Net" "arcs") (mVarT 0)))) E).bind blOf)) mNever mNext))
def m__check_painting : List D → Option D := callM 4 4 b__check_painting
theorem fn__check_painting {f : Addr} {fd : FuncData} (F : FunD K "_check_painting" "_check_painting" (defArgs s__check_painting) (defBody s__check_painting) (defScope s__check_painting) [] [] f fd) (k_Net : Cls K (He.ga K "Net")) (n_Net_arcs : NoAttr K (He.ga K "Net") "arcs") (h_len : mg "len" = none) : FnOk P w K mg base CX0 1 f fd ["net", "rises", "falls", "asked"] (spD K 4 m__check_painting) :=
  fn_mk (N := N__check_painting) (m := b__check_painting) F sc__check_painting rfl (fun cdv A outer s H E hr =>
      (dss_cons (ds_if (DW.toB (dw_or (db_cmp (op_neAll hr) od_ne (DE.t (de_len h_len (dt_var 1))) (DE.t (de_len h_len (DE.t (de_fld "Net" k_Net n_Net_arcs (dt_var 0)))))) (dw_or1 (db_cmp (op_neAll hr) od_ne (DE.t (de_len h_len (dt_var 2))) (DE.t (de_len h_len (DE.t (de_fld "Net" k_Net n_Net_arcs (dt_var 0))))))))) (dss_one ds_never) dss_nil)
      (dss_one (ds_if (db_not (db_chain op_le od_le op_lt od_lt (DE.t de_int) (dt_var 3) (DE.t (de_len h_len (DE.t (de_fld "Net" k_Net n_Net_arcs (dt_var 0))))))) (dss_one ds_never) dss_nil))))
theorem bd__check_painting (kV doc pm : Value) (an : Option Addr) (cdv ct : Value) (us : List Value) (hl : us.length = ["net", "rises", "falls", "asked"].length) : bindArgs (PySem.W.fnOf "_check_painting" "_check_painting" (defArgs s__check_painting) (defBody s__check_painting) (defScope s__check_painting) .none kV doc pm an cdv ct) ⟨us, []⟩ = pure ((["net", "rises", "falls", "asked"] : List Str).zip us) := match us, hl with | [_, _, _, _], _ => rfl
theorem cal__check_painting (F : Stands K mg "_check_painting" s__check_painting) (k_Net : Cls K (He.ga K "Net")) (n_Net_arcs : NoAttr K (He.ga K "Net") "arcs") (h_len : mg "len" = none) : Cal P w K mg base "_check_painting" 1 4 m__check_painting :=
  cal_of F bd__check_painting fun F => fn__check_painting F k_Net n_Net_arcs h_len

abbrev s__may_go : Stmt := topS 13
abbrev N__may_go : List Str := ["net", "rises", "falls", "arc", "direction"]
theorem sc__may_go : FnScope N__may_go ["net", "rises", "falls", "arc", "direction"] (defScope s__may_go) := ⟨rfl, rfl, rfl, by decide +kernel, rfl, by decide +kernel, by decide +kernel⟩
def b__may_go : En → Option Out :=
      (mSeq (mIfS (mNot (fun E => ((mChain (intOp fun i j => .bl (decide (i ≤ j))) (intOp fun i j => .bl (decide (i < j))) (mC (.int 0)) (mVarT 3) (mUn lenD (mUn (fldD "Net" "arcs") (mVarT 0)))) E).bind blOf)) (mRet (mC (.bl false))) mNext)
      (mRet (mOrV (mAndV (mBin eqD (mVarT 4) (mC (.int 1))) (mBin ixD (mVarT 1) (mVarT 3))) (mAndV (mBin eqD (mVarT 4) (mUn negD (mC (.int 1)))) (mBin ixD (mVarT 2) (mVarT 3))))))
def m__may_go : List D → Option D := callM 5 5 b__may_go
theorem fn__may_go {f : Addr} {fd : FuncData} (F : FunD K "_may_go" "_may_go" (defArgs s__may_go) (defBody s__may_go) (defScope s__may_go) [] [] f fd) (k_Net : Cls K (He.ga K "Net")) (n_Net_arcs : NoAttr K (He.ga K "Net") "arcs") (h_len : mg "len" = none) : FnOk P w K mg base CX0 1 f fd ["net", "rises", "falls", "arc", "direction"] (spD K 5 m__may_go) :=
  fn_mk (N := N__may_go) (m := b__may_go) F sc__may_go rfl (fun cdv A outer s H E hr =>
      (dss_cons (ds_if (db_not (db_chain op_le od_le op_lt od_lt (DE.t de_int) (dt_var 3) (DE.t (de_len h_len (DE.t (de_fld "Net" k_Net n_Net_arcs (dt_var 0))))))) (dss_one (ds_ret (DE.t de_bl))) dss_nil)
      (dss_one (ds_ret (DE.t (de_or (de_and (de_cmp (op_eqAll hr) od_eq (dt_var 4) (DE.t de_int)) (de_one (de_ix (dt_var 1) (dt_var 3)))) (de_one (de_and (de_cmp (op_eqAll hr) od_eq (dt_var 4) (DE.t (de_neg (DE.t de_int)))) (de_one (de_ix (dt_var 2) (dt_var 3)))))))))))
theorem bd__may_go (kV doc pm : Value) (an : Option Addr) (cdv ct : Value) (us : List Value) (hl : us.length = ["net", "rises", "falls", "arc", "direction"].length) : bindArgs (PySem.W.fnOf "_may_go" "_may_go" (defArgs s__may_go) (defBody s__may_go) (defScope s__may_go) .none kV doc pm an cdv ct) ⟨us, []⟩ = pure ((["net", "rises", "falls", "arc", "direction"] : List Str).zip us) := match us, hl with | [_, _, _, _, _], _ => rfl
theorem cal__may_go (F : Stands K mg "_may_go" s__may_go) (k_Net : Cls K (He.ga K "Net")) (n_Net_arcs : NoAttr K (He.ga K "Net") "arcs") (h_len : mg "len" = none) : Cal P w K mg base "_may_go" 1 5 m__may_go :=
  cal_of F bd__may_go fun F => fn__may_go F k_Net n_Net_arcs h_len

abbrev s__steps_from : Stmt := topS 14
abbrev N__steps_from : List Str := ["net", "rises", "falls", "asked", "links", "head", "came", "queue", "place", "node", "arc", "direction", "end", "0n0"]
theorem sc__steps_from : FnScope N__steps_from ["net", "rises", "falls", "asked"] (defScope s__steps_from) := ⟨rfl, rfl, rfl, by decide +kernel, rfl, by decide +kernel, by decide +kernel⟩
def b__steps_from : En → Option Out :=
      (mSeq (mSet 4 (mCall 1 m_links_of (mCons (mVar 0) mNil)))
      (mSeq (mSet 5 (mBin ixD (mBin ixD (mUn (fldD "Net" "arcs") (mVarT 0)) (mVarT 3)) (mC (.int 1))))
      (mSeq (mDNew1 6 13 (mVar 5) (mC .non))
      (mSeq (mSetO 7 (mLst (mCons (mVar 5) mNil)))
      (mSeq (mSet 8 (mC (.int 0)))
      (mSeq (mWhile 1000000 (fun E => ((mBin (intOp fun i j => .bl (decide (i < j))) (mVarT 8) (mUn lenD (mVarT 7))) E).bind blOf) (mSeq (mSet 9 (mBin ixD (mVarT 7) (mVarT 8)))
      (mSeq (mAug (fun i j => i + j) 8 (mC (.int 1)))
      (mFor (fun E => ((mBin ixD (mVarT 4) (mVarT 9)) E).bind lstOf) (gTupM 3 (gsCons (gM 10) (gsCons (gM 11) (gsCons (gM 12) gsNil)))) (mIfS (mAnd (fun E => ((mBin neD (mVarT 10) (mVarT 3)) E).bind blOf) (mAnd (fun E => ((mBin notInD2 (mVarT 12) (mVarT 6)) E).bind blOf) (fun E => ((mCall 5 m__may_go (mCons (mVar 0) (mCons (mVar 1) (mCons (mVar 2) (mCons (mVar 10) (mCons (mVar 11) mNil)))))) E).bind truD))) (mSeq (mDPut 6 (mTup (mCons (mVar 10) (mCons (mVar 11) (mCons (mVar 9) mNil)))) (mVar 12))
      (mApp 7 (mVar 12))) mNext)))))
      (mRet (mVarT 6))))))))
def m__steps_from : List D → Option D := callM 4 14 b__steps_from
theorem fn__steps_from {f : Addr} {fd : FuncData} (F : FunD K "_steps_from" "_steps_from" (defArgs s__steps_from) (defBody s__steps_from) (defScope s__steps_from) [] [] f fd) (c_links_of : Cal P w K mg base "links_of" 1 1 m_links_of) (c__may_go : Cal P w K mg base "_may_go" 1 5 m__may_go) (k_Net : Cls K (He.ga K "Net")) (n_Net_arcs : NoAttr K (He.ga K "Net") "arcs") (h_len : mg "len" = none) : FnOk P w K mg base CX0 2 f fd ["net", "rises", "falls", "asked"] (spD K 4 m__steps_from) :=
  fn_mk (N := N__steps_from) (m := b__steps_from) F sc__steps_from rfl (fun cdv A outer s H E hr =>
      (dss_cons (ds_set 4 sc__steps_from.nd (de_call c_links_of (hr.mono (by decide)) (da_cons (de_var 0) da_nil)))
      (dss_cons (ds_set 5 sc__steps_from.nd (de_ix (DE.t (de_ix (DE.t (de_fld "Net" k_Net n_Net_arcs (dt_var 0))) (dt_var 3))) (DE.t de_int)))
      (dss_cons (ds_dnew1 6 13 sc__steps_from.nd (de_var 5) de_non)
      (dss_cons (ds_setO 7 sc__steps_from.nd (df_lst (da_cons (de_var 5) da_nil)))
      (dss_cons (ds_set 8 sc__steps_from.nd de_int)
      (dss_cons (ds_while 1000000 PassesOwn.never (db_cmp op_lt od_lt (dt_var 8) (DE.t (de_len h_len (dt_var 7)))) (dss_cons (ds_set 9 sc__steps_from.nd (de_ix (dt_var 7) (dt_var 8)))
      (dss_cons (ds_augAdd 8 sc__steps_from.nd de_int)
      (dss_one (ds_for PassesOwn.never rfl (di_list (de_ix (dt_var 4) (dt_var 9))) (dg_tup rfl (dgs_cons (dg_name 10 sc__steps_from.nd) (dgs_cons (dg_name 11 sc__steps_from.nd) (dgs_cons (dg_name 12 sc__steps_from.nd) dgs_nil)))) (dss_one (ds_if (DW.toB (dw_and (db_cmp (op_neAll hr) od_ne (dt_var 10) (dt_var 3)) (dw_and (db_notIn2 hr (dt_var 12) (dt_var 6)) (dw_and1 (db_tru (DE.t (de_call c__may_go (hr.mono (by decide)) (da_cons (de_var 0) (da_cons (de_var 1) (da_cons (de_var 2) (da_cons (de_var 10) (da_cons (de_var 11) da_nil)))))))))))) (dss_cons (ds_dput 6 hr (de_tup (da_cons (de_var 10) (da_cons (de_var 11) (da_cons (de_var 9) da_nil)))) (de_var 12))
      (dss_one (ds_app 7 (de_var 12)))) dss_nil)))))))
      (dss_one (ds_ret (dt_var 6))))))))))
theorem bd__steps_from (kV doc pm : Value) (an : Option Addr) (cdv ct : Value) (us : List Value) (hl : us.length = ["net", "rises", "falls", "asked"].length) : bindArgs (PySem.W.fnOf "_steps_from" "_steps_from" (defArgs s__steps_from) (defBody s__steps_from) (defScope s__steps_from) .none kV doc pm an cdv ct) ⟨us, []⟩ = pure ((["net", "rises", "falls", "asked"] : List Str).zip us) := match us, hl with | [_, _, _, _], _ => rfl
theorem cal__steps_from (F : Stands K mg "_steps_from" s__steps_from) (c_links_of : Cal P w K mg base "links_of" 1 1 m_links_of) (c__may_go : Cal P w K mg base "_may_go" 1 5 m__may_go) (k_Net : Cls K (He.ga K "Net")) (n_Net_arcs : NoAttr K (He.ga K "Net") "arcs") (h_len : mg "len" = none) : Cal P w K mg base "_steps_from" 2 4 m__steps_from :=
  cal_of F bd__steps_from fun F => fn__steps_from F c_links_of c__may_go k_Net n_Net_arcs h_len

abbrev s_ring_or_cut : Stmt := topS 9
abbrev N_ring_or_cut : List Str := ["net", "rises", "falls", "asked", "came", "way", "node", "tail", "head", "arc", "direction"]
theorem sc_ring_or_cut : FnScope N_ring_or_cut ["net", "rises", "falls", "asked"] (defScope s_ring_or_cut) := ⟨rfl, rfl, rfl, by decide +kernel, rfl, by decide +kernel, by decide +kernel⟩
def b_ring_or_cut : En → Option Out :=
      (mSeq (mDrop (mCall 4 m__check_painting (mCons (mVar 0) (mCons (mVar 1) (mCons (mVar 2) (mCons (mVar 3) mNil))))))
      (mSeq (mAsg (gTupM 2 (gsCons (gM 7) (gsCons (gM 8) gsNil))) (mBin ixD (mUn (fldD "Net" "arcs") (mVarT 0)) (mVarT 3)))
      (mSeq (mSet 4 (mCall 4 m__steps_from (mCons (mVar 0) (mCons (mVar 1) (mCons (mVar 2) (mCons (mVar 3) mNil))))))
      (mSeq (mIfS (fun E => ((mBin notInD2 (mVarT 7) (mVarT 4)) E).bind blOf) (mRetTF (mC (.str "cut")) (fun E => (((mVarT 4) E).bind keysOf).map fun ns => (sortI ns).map .int)) mNext)
      (mSeq (mSetO 5 (mLst mNil))
      (mSeq (mSet 6 (mVar 7))
      (mSeq (mWhile 1000000 (fun E => ((mBin neD (mVarT 6) (mVarT 8)) E).bind blOf) (mSeq (mAsg (gTupM 3 (gsCons (gM 9) (gsCons (gM 10) (gsCons (gM 6) gsNil)))) (mBin ixD2 (mVarT 4) (mVarT 6)))
      (mApp 5 (mTup (mCons (mVar 9) (mCons (mVar 10) mNil))))))
      (mRetTF (mC (.str "ring")) (fun E => ((mList (mLst (mCons (mTup (mCons (mVar 3) (mCons (mC (.int 1)) mNil))) mNil))) E).bind fun x => ((mList (fun E => (((mVarT 5) E).bind lstOf).map List.reverse)) E).bind fun y => catD x y)))))))))
def mT_ring_or_cut : List D → Option (D × List D) := callTF 4 11 b_ring_or_cut
theorem fnTF_ring_or_cut {f : Addr} {fd : FuncData} (F : FunD K "ring_or_cut" "ring_or_cut" (defArgs s_ring_or_cut) (defBody s_ring_or_cut) (defScope s_ring_or_cut) [] [] f fd) (c__check_painting : Cal P w K mg base "_check_painting" 1 4 m__check_painting) (c__steps_from : Cal P w K mg base "_steps_from" 2 4 m__steps_from) (k_Net : Cls K (He.ga K "Net")) (n_Net_arcs : NoAttr K (He.ga K "Net") "arcs") (h_sorted : mg "sorted" = none) : FnOk P w K mg base CX0 3 f fd ["net", "rises", "falls", "asked"] (spTF K 4 mT_ring_or_cut) :=
  fnTF_mk (N := N_ring_or_cut) (m := b_ring_or_cut) F sc_ring_or_cut rfl (fun cdv A outer s H E hr =>
      (dss_cons (ds_expr (de_call c__check_painting (hr.mono (by decide)) (da_cons (de_var 0) (da_cons (de_var 1) (da_cons (de_var 2) (da_cons (de_var 3) da_nil))))))
      (dss_cons (ds_asg (de_ix (DE.t (de_fld "Net" k_Net n_Net_arcs (dt_var 0))) (dt_var 3)) (dg_tup rfl (dgs_cons (dg_name 7 sc_ring_or_cut.nd) (dgs_cons (dg_name 8 sc_ring_or_cut.nd) dgs_nil))))
      (dss_cons (ds_set 4 sc_ring_or_cut.nd (de_call c__steps_from (hr.mono (by decide)) (da_cons (de_var 0) (da_cons (de_var 1) (da_cons (de_var 2) (da_cons (de_var 3) da_nil))))))
      (dss_cons (ds_if (db_notIn2 hr (dt_var 7) (dt_var 4)) (dss_one (ds_retTF de_str (df_sortedD rfl h_sorted (dt_var 4)))) dss_nil)
      (dss_cons (ds_setO 5 sc_ring_or_cut.nd (df_lst da_nil))
      (dss_cons (ds_set 6 sc_ring_or_cut.nd (de_var 7))
      (dss_cons (ds_while 1000000 PassesOwn.never (db_cmp (op_neAll hr) od_ne (dt_var 6) (dt_var 8)) (dss_cons (ds_asg (de_ix2 hr (dt_var 4) (dt_var 6)) (dg_tup rfl (dgs_cons (dg_name 9 sc_ring_or_cut.nd) (dgs_cons (dg_name 10 sc_ring_or_cut.nd) (dgs_cons (dg_name 6 sc_ring_or_cut.nd) dgs_nil)))))
      (dss_one (ds_app 5 (de_tup (da_cons (de_var 9) (da_cons (de_var 10) da_nil)))))))
      (dss_one (ds_retTF de_str (df_add (DF.t (df_lst (da_cons (de_tup (da_cons (de_var 3) (da_cons de_int da_nil))) da_nil))) (DF.t (df_rev (dt_var 5))))))))))))))
theorem bd_ring_or_cut (kV doc pm : Value) (an : Option Addr) (cdv ct : Value) (us : List Value) (hl : us.length = ["net", "rises", "falls", "asked"].length) : bindArgs (PySem.W.fnOf "ring_or_cut" "ring_or_cut" (defArgs s_ring_or_cut) (defBody s_ring_or_cut) (defScope s_ring_or_cut) .none kV doc pm an cdv ct) ⟨us, []⟩ = pure ((["net", "rises", "falls", "asked"] : List Str).zip us) := match us, hl with | [_, _, _, _], _ => rfl
theorem calTF_ring_or_cut (F : Stands K mg "ring_or_cut" s_ring_or_cut) (c__check_painting : Cal P w K mg base "_check_painting" 1 4 m__check_painting) (c__steps_from : Cal P w K mg base "_steps_from" 2 4 m__steps_from) (k_Net : Cls K (He.ga K "Net")) (n_Net_arcs : NoAttr K (He.ga K "Net") "arcs") (h_sorted : mg "sorted" = none) : CalTF P w K mg base "ring_or_cut" 3 4 mT_ring_or_cut :=
  calTF_of F bd_ring_or_cut fun F => fnTF_ring_or_cut F c__check_painting c__steps_from k_Net n_Net_arcs h_sorted

abbrev s_is_ring : Stmt := topS 10
abbrev N_is_ring : List Str := ["net", "rises", "falls", "asked", "ring", "reached", "tail", "node", "arc", "direction", "start", "end", "0n0"]
theorem sc_is_ring : FnScope N_is_ring ["net", "rises", "falls", "asked", "ring"] (defScope s_is_ring) := ⟨rfl, rfl, rfl, by decide +kernel, rfl, by decide +kernel, by decide +kernel⟩
def b_is_ring : En → Option Out :=
      (mSeq (mDrop (mCall 4 m__check_painting (mCons (mVar 0) (mCons (mVar 1) (mCons (mVar 2) (mCons (mVar 3) mNil))))))
      (mSeq (mIfS (mOr (mNot (fun E => ((mVarT 4) E).bind truD)) (fun E => ((mBin neD (mBin ixD (mVarT 4) (mC (.int 0))) (mTup (mCons (mVar 3) (mCons (mC (.int 1)) mNil)))) E).bind blOf)) (mRet (mC (.bl false))) mNext)
      (mSeq (mAsg (gTupM 2 (gsCons (gM 6) (gsCons (gM 7) gsNil))) (mBin ixD (mUn (fldD "Net" "arcs") (mVarT 0)) (mVarT 3)))
      (mSeq (mDNew1 5 12 (mVar 7) (mC (.bl true)))
      (mSeq (mFor (fun E => ((mList (fun E => (((mVarT 4) E).bind lstOf).bind fun ds => ((fun E => ((mC (.int 1)) E).bind inOf) E).bind fun l => ((fun _ => some none) E).map fun h => cutD ds l h)) E).bind lstOf) (gTupM 2 (gsCons (gM 8) (gsCons (gM 9) gsNil))) (mSeq (mIfS (mOr (fun E => ((mBin eqD (mVarT 8) (mVarT 3)) E).bind blOf) (mNot (fun E => ((mCall 5 m__may_go (mCons (mVar 0) (mCons (mVar 1) (mCons (mVar 2) (mCons (mVar 8) (mCons (mVar 9) mNil)))))) E).bind truD))) (mRet (mC (.bl false))) mNext)
      (mSeq (mAsg (gTupM 2 (gsCons (gM 10) (gsCons (gM 11) gsNil))) (mCall 3 m_ends_of (mCons (mVar 0) (mCons (mVar 8) (mCons (mVar 9) mNil)))))
      (mSeq (mIfS (mOr (fun E => ((mBin neD (mVarT 10) (mVarT 7)) E).bind blOf) (fun E => ((mBin inD2 (mVarT 11) (mVarT 5)) E).bind blOf)) (mRet (mC (.bl false))) mNext)
      (mSeq (mDPut 5 (mC (.bl true)) (mVar 11))
      (mSet 7 (mVar 11)))))))
      (mRet (mBin eqD (mVarT 7) (mVarT 6))))))))
def m_is_ring : List D → Option D := callM 5 13 b_is_ring
theorem fn_is_ring {f : Addr} {fd : FuncData} (F : FunD K "is_ring" "is_ring" (defArgs s_is_ring) (defBody s_is_ring) (defScope s_is_ring) [] [] f fd) (c__check_painting : Cal P w K mg base "_check_painting" 1 4 m__check_painting) (c__may_go : Cal P w K mg base "_may_go" 1 5 m__may_go) (c_ends_of : Cal P w K mg base "ends_of" 1 3 m_ends_of) (k_Net : Cls K (He.ga K "Net")) (n_Net_arcs : NoAttr K (He.ga K "Net") "arcs") : FnOk P w K mg base CX0 2 f fd ["net", "rises", "falls", "asked", "ring"] (spD K 5 m_is_ring) :=
  fn_mk (N := N_is_ring) (m := b_is_ring) F sc_is_ring rfl (fun cdv A outer s H E hr =>
      (dss_cons (ds_expr (de_call c__check_painting (hr.mono (by decide)) (da_cons (de_var 0) (da_cons (de_var 1) (da_cons (de_var 2) (da_cons (de_var 3) da_nil))))))
      (dss_cons (ds_if (DW.toB (dw_or (db_not (db_tru (dt_var 4))) (dw_or1 (db_cmp (op_neAll hr) od_ne (DE.t (de_ix (dt_var 4) (DE.t de_int))) (DE.t (de_tup (da_cons (de_var 3) (da_cons de_int da_nil)))))))) (dss_one (ds_ret (DE.t de_bl))) dss_nil)
      (dss_cons (ds_asg (de_ix (DE.t (de_fld "Net" k_Net n_Net_arcs (dt_var 0))) (dt_var 3)) (dg_tup rfl (dgs_cons (dg_name 6 sc_is_ring.nd) (dgs_cons (dg_name 7 sc_is_ring.nd) dgs_nil))))
      (dss_cons (ds_dnew1 5 12 sc_is_ring.nd (de_var 7) de_bl)
      (dss_cons (ds_for PassesOwn.never rfl (di_list (DF.toE (df_slice (dt_var 4) (do_some (DE.t de_int)) do_none))) (dg_tup rfl (dgs_cons (dg_name 8 sc_is_ring.nd) (dgs_cons (dg_name 9 sc_is_ring.nd) dgs_nil))) (dss_cons (ds_if (DW.toB (dw_or (db_cmp (op_eqAll hr) od_eq (dt_var 8) (dt_var 3)) (dw_or1 (db_not (db_tru (DE.t (de_call c__may_go (hr.mono (by decide)) (da_cons (de_var 0) (da_cons (de_var 1) (da_cons (de_var 2) (da_cons (de_var 8) (da_cons (de_var 9) da_nil)))))))))))) (dss_one (ds_ret (DE.t de_bl))) dss_nil)
      (dss_cons (ds_asg (de_call c_ends_of (hr.mono (by decide)) (da_cons (de_var 0) (da_cons (de_var 8) (da_cons (de_var 9) da_nil)))) (dg_tup rfl (dgs_cons (dg_name 10 sc_is_ring.nd) (dgs_cons (dg_name 11 sc_is_ring.nd) dgs_nil))))
      (dss_cons (ds_if (DW.toB (dw_or (db_cmp (op_neAll hr) od_ne (dt_var 10) (dt_var 7)) (dw_or1 (db_in2 hr (dt_var 11) (dt_var 5))))) (dss_one (ds_ret (DE.t de_bl))) dss_nil)
      (dss_cons (ds_dput 5 hr de_bl (de_var 11))
      (dss_one (ds_set 7 sc_is_ring.nd (de_var 11))))))))
      (dss_one (ds_ret (DE.t (de_cmp (op_eqAll hr) od_eq (dt_var 7) (dt_var 6)))))))))))
theorem bd_is_ring (kV doc pm : Value) (an : Option Addr) (cdv ct : Value) (us : List Value) (hl : us.length = ["net", "rises", "falls", "asked", "ring"].length) : bindArgs (PySem.W.fnOf "is_ring" "is_ring" (defArgs s_is_ring) (defBody s_is_ring) (defScope s_is_ring) .none kV doc pm an cdv ct) ⟨us, []⟩ = pure ((["net", "rises", "falls", "asked", "ring"] : List Str).zip us) := match us, hl with | [_, _, _, _, _], _ => rfl
theorem cal_is_ring (F : Stands K mg "is_ring" s_is_ring) (c__check_painting : Cal P w K mg base "_check_painting" 1 4 m__check_painting) (c__may_go : Cal P w K mg base "_may_go" 1 5 m__may_go) (c_ends_of : Cal P w K mg base "ends_of" 1 3 m_ends_of) (k_Net : Cls K (He.ga K "Net")) (n_Net_arcs : NoAttr K (He.ga K "Net") "arcs") : Cal P w K mg base "is_ring" 2 5 m_is_ring :=
  cal_of F bd_is_ring fun F => fn_is_ring F c__check_painting c__may_go c_ends_of k_Net n_Net_arcs

abbrev s_is_cut : Stmt := topS 11
abbrev N_is_cut : List Str := ["net", "rises", "falls", "asked", "nodes", "place", "node", "tail", "head", "arc", "direction"]
theorem sc_is_cut : FnScope N_is_cut ["net", "rises", "falls", "asked", "nodes"] (defScope s_is_cut) := ⟨rfl, rfl, rfl, by decide +kernel, rfl, by decide +kernel, by decide +kernel⟩
def b_is_cut : En → Option Out :=
      (mSeq (mDrop (mCall 4 m__check_painting (mCons (mVar 0) (mCons (mVar 1) (mCons (mVar 2) (mCons (mVar 3) mNil))))))
      (mSeq (mFor (mEnum (mVar 4)) (gTupM 2 (gsCons (gM 5) (gsCons (gM 6) gsNil))) (mIfS (mOr (mNot (fun E => ((mChain (intOp fun i j => .bl (decide (i ≤ j))) (intOp fun i j => .bl (decide (i < j))) (mC (.int 0)) (mVarT 6) (mUn (fldD "Net" "nodes") (mVarT 0))) E).bind blOf)) (mAnd (fun E => ((mBin (intOp fun i j => .bl (decide (j < i))) (mVarT 5) (mC (.int 0))) E).bind blOf) (fun E => ((mBin (intOp fun i j => .bl (decide (i ≤ j))) (mVarT 6) (mBin ixD (mVarT 4) (mBin (intOp fun i j => .int (i - j)) (mVarT 5) (mC (.int 1))))) E).bind blOf))) (mRet (mC (.bl false))) mNext))
      (mSeq (mAsg (gTupM 2 (gsCons (gM 7) (gsCons (gM 8) gsNil))) (mBin ixD (mUn (fldD "Net" "arcs") (mVarT 0)) (mVarT 3)))
      (mSeq (mIfS (mOr (fun E => ((mBin notInD (mVarT 8) (mVarT 4)) E).bind blOf) (fun E => ((mBin inD (mVarT 7) (mVarT 4)) E).bind blOf)) (mRet (mC (.bl false))) mNext)
      (mSeq (mFor (fun E => ((mCall 2 m_crossing (mCons (mVar 0) (mCons (mVar 4) mNil))) E).bind lstOf) (gTupM 2 (gsCons (gM 9) (gsCons (gM 10) gsNil))) (mIfS (mAnd (fun E => ((mBin neD (mVarT 9) (mVarT 3)) E).bind blOf) (fun E => ((mCall 5 m__may_go (mCons (mVar 0) (mCons (mVar 1) (mCons (mVar 2) (mCons (mVar 9) (mCons (mVar 10) mNil)))))) E).bind truD)) (mRet (mC (.bl false))) mNext))
      (mRet (mC (.bl true))))))))
def m_is_cut : List D → Option D := callM 5 11 b_is_cut
theorem fn_is_cut {f : Addr} {fd : FuncData} (F : FunD K "is_cut" "is_cut" (defArgs s_is_cut) (defBody s_is_cut) (defScope s_is_cut) [] [] f fd) (c__check_painting : Cal P w K mg base "_check_painting" 1 4 m__check_painting) (c_crossing : Cal P w K mg base "crossing" 1 2 m_crossing) (c__may_go : Cal P w K mg base "_may_go" 1 5 m__may_go) (k_Net : Cls K (He.ga K "Net")) (n_Net_nodes : NoAttr K (He.ga K "Net") "nodes") (n_Net_arcs : NoAttr K (He.ga K "Net") "arcs") (h_enumerate : mg "enumerate" = none) : FnOk P w K mg base CX0 2 f fd ["net", "rises", "falls", "asked", "nodes"] (spD K 5 m_is_cut) :=
  fn_mk (N := N_is_cut) (m := b_is_cut) F sc_is_cut rfl (fun cdv A outer s H E hr =>
      (dss_cons (ds_expr (de_call c__check_painting (hr.mono (by decide)) (da_cons (de_var 0) (da_cons (de_var 1) (da_cons (de_var 2) (da_cons (de_var 3) da_nil))))))
      (dss_cons (ds_for PassesOwn.never rfl (di_enum h_enumerate (de_var 4)) (dg_tup rfl (dgs_cons (dg_name 5 sc_is_cut.nd) (dgs_cons (dg_name 6 sc_is_cut.nd) dgs_nil))) (dss_one (ds_if (DW.toB (dw_or (db_not (db_chain op_le od_le op_lt od_lt (DE.t de_int) (dt_var 6) (DE.t (de_fld "Net" k_Net n_Net_nodes (dt_var 0))))) (dw_or1 (DW.toB (dw_and (db_cmp op_gt od_gt (dt_var 5) (DE.t de_int)) (dw_and1 (db_cmp op_le od_le (dt_var 6) (DE.t (de_ix (dt_var 4) (DE.t (de_sub (dt_var 5) (DE.t de_int)))))))))))) (dss_one (ds_ret (DE.t de_bl))) dss_nil)))
      (dss_cons (ds_asg (de_ix (DE.t (de_fld "Net" k_Net n_Net_arcs (dt_var 0))) (dt_var 3)) (dg_tup rfl (dgs_cons (dg_name 7 sc_is_cut.nd) (dgs_cons (dg_name 8 sc_is_cut.nd) dgs_nil))))
      (dss_cons (ds_if (DW.toB (dw_or (db_cmp op_notIn_seq od_notIn (dt_var 8) (dt_var 4)) (dw_or1 (db_cmp op_in_seq od_in (dt_var 7) (dt_var 4))))) (dss_one (ds_ret (DE.t de_bl))) dss_nil)
      (dss_cons (ds_for PassesOwn.never rfl (di_list (de_call c_crossing (hr.mono (by decide)) (da_cons (de_var 0) (da_cons (de_var 4) da_nil)))) (dg_tup rfl (dgs_cons (dg_name 9 sc_is_cut.nd) (dgs_cons (dg_name 10 sc_is_cut.nd) dgs_nil))) (dss_one (ds_if (DW.toB (dw_and (db_cmp (op_neAll hr) od_ne (dt_var 9) (dt_var 3)) (dw_and1 (db_tru (DE.t (de_call c__may_go (hr.mono (by decide)) (da_cons (de_var 0) (da_cons (de_var 1) (da_cons (de_var 2) (da_cons (de_var 9) (da_cons (de_var 10) da_nil))))))))))) (dss_one (ds_ret (DE.t de_bl))) dss_nil)))
      (dss_one (ds_ret (DE.t de_bl)))))))))
theorem bd_is_cut (kV doc pm : Value) (an : Option Addr) (cdv ct : Value) (us : List Value) (hl : us.length = ["net", "rises", "falls", "asked", "nodes"].length) : bindArgs (PySem.W.fnOf "is_cut" "is_cut" (defArgs s_is_cut) (defBody s_is_cut) (defScope s_is_cut) .none kV doc pm an cdv ct) ⟨us, []⟩ = pure ((["net", "rises", "falls", "asked", "nodes"] : List Str).zip us) := match us, hl with | [_, _, _, _, _], _ => rfl
theorem cal_is_cut (F : Stands K mg "is_cut" s_is_cut) (c__check_painting : Cal P w K mg base "_check_painting" 1 4 m__check_painting) (c_crossing : Cal P w K mg base "crossing" 1 2 m_crossing) (c__may_go : Cal P w K mg base "_may_go" 1 5 m__may_go) (k_Net : Cls K (He.ga K "Net")) (n_Net_nodes : NoAttr K (He.ga K "Net") "nodes") (n_Net_arcs : NoAttr K (He.ga K "Net") "arcs") (h_enumerate : mg "enumerate" = none) : Cal P w K mg base "is_cut" 2 5 m_is_cut :=
  cal_of F bd_is_cut fun F => fn_is_cut F c__check_painting c_crossing c__may_go k_Net n_Net_nodes n_Net_arcs h_enumerate

abbrev s__law_cell : Stmt := topS 16
abbrev N__law_cell : List Str := ["script", "at", "mixed", "cell"]
theorem sc__law_cell : FnScope N__law_cell ["script", "at"] (defScope s__law_cell) := ⟨rfl, rfl, rfl, by decide +kernel, rfl, by decide +kernel, by decide +kernel⟩
def b__law_cell : En → Option Out :=
      (mSeq (mIfS (fun E => ((mBin (intOp fun i j => .bl (decide (i < j))) (mVarT 1) (mUn lenD (mVarT 0))) E).bind blOf) (mRet (mUn intD (mBin ixD (mVarT 0) (mVarT 1)))) mNext)
      (mSeq (mSet 2 (mBin addD (mC (.int 11)) (mBin (intOpC mulOk fun i j => .int (i * j)) (mC (.int 101)) (mVarT 1))))
      (mSeq (mFor (fun E => ((mVar 0) E).bind lstOf) (gM 3) (mSet 2 (mBin (intOpC (fun _ j => decide (0 < j)) fun i j => .int (i % j)) (mUn intD (mBin addD (mBin (intOpC mulOk fun i j => .int (i * j)) (mVarT 2) (mC (.int 31))) (mVarT 3))) (mC (.int 1000000007)))))
      (mRet (mVarT 2)))))
def m__law_cell : List D → Option D := callM 2 4 b__law_cell
theorem fn__law_cell {f : Addr} {fd : FuncData} (F : FunD K "_law_cell" "_law_cell" (defArgs s__law_cell) (defBody s__law_cell) (defScope s__law_cell) [] [] f fd) (h_len : mg "len" = none) (h_int : mg "int" = none) : FnOk P w K mg base CX0 1 f fd ["script", "at"] (spD K 2 m__law_cell) :=
  fn_mk (N := N__law_cell) (m := b__law_cell) F sc__law_cell rfl (fun cdv A outer s H E hr =>
      (dss_cons (ds_if (db_cmp op_lt od_lt (dt_var 1) (DE.t (de_len h_len (dt_var 0)))) (dss_one (ds_ret (DE.t (de_int1 h_int (DE.t (de_ix (dt_var 0) (dt_var 1))))))) dss_nil)
      (dss_cons (ds_set 2 sc__law_cell.nd (de_add (DE.t de_int) (DE.t (de_mul (DE.t de_int) (dt_var 1)))))
      (dss_cons (ds_for PassesOwn.never rfl (di_list (de_var 0)) (dg_name 3 sc__law_cell.nd) (dss_one (ds_set 2 sc__law_cell.nd (de_mod (DE.t (de_int1 h_int (DE.t (de_add (DE.t (de_mul (dt_var 2) (DE.t de_int))) (dt_var 3))))) (DE.t de_int)))))
      (dss_one (ds_ret (dt_var 2)))))))
theorem bd__law_cell (kV doc pm : Value) (an : Option Addr) (cdv ct : Value) (us : List Value) (hl : us.length = ["script", "at"].length) : bindArgs (PySem.W.fnOf "_law_cell" "_law_cell" (defArgs s__law_cell) (defBody s__law_cell) (defScope s__law_cell) .none kV doc pm an cdv ct) ⟨us, []⟩ = pure ((["script", "at"] : List Str).zip us) := match us, hl with | [_, _], _ => rfl
theorem cal__law_cell (F : Stands K mg "_law_cell" s__law_cell) (h_len : mg "len" = none) (h_int : mg "int" = none) : Cal P w K mg base "_law_cell" 1 2 m__law_cell :=
  cal_of F bd__law_cell fun F => fn__law_cell F h_len h_int

abbrev s__law_draw : Stmt := topS 17
abbrev N__law_draw : List Str := ["script", "at", "k", "size", "cell", "mixed", "rest", "turn"]
theorem sc__law_draw : FnScope N__law_draw ["script", "at", "k", "size"] (defScope s__law_draw) := ⟨rfl, rfl, rfl, by decide +kernel, rfl, by decide +kernel, by decide +kernel⟩
def b__law_draw : En → Option Out :=
      (mSeq (mSet 4 (mCall 2 m__law_cell (mCons (mVar 0) (mCons (mVar 1) mNil))))
      (mSeq (mIfS (fun E => ((mBin (intOp fun i j => .bl (decide (j ≤ i))) (mVarT 4) (mBin (intOpC powOk fun i j => .int (i ^ j.toNat)) (mC (.int 10)) (mC (.int 18)))) E).bind blOf) (mSeq (mSet 6 (mVar 4))
      (mSeq (mFor (fun E => ((mVarT 2) E).bind rg1) (gM 7) (mSet 6 (mBin (intOpC divOk fun i j => .int (i / j)) (mVarT 6) (mC (.int 1000003)))))
      (mIfS (fun E => ((mBin (intOp fun i j => .bl (decide (j < i))) (mVarT 6) (mC (.int 0))) E).bind blOf) (mRet (mBin (intOpC (fun _ j => decide (0 < j)) fun i j => .int (i % j)) (mBin (intOpC (fun _ j => decide (0 < j)) fun i j => .int (i % j)) (mUn intD (mVarT 6)) (mC (.int 1000003))) (mVarT 3))) mNext))) mNext)
      (mSeq (mSet 5 (mBin (intOpC (fun _ j => decide (0 < j)) fun i j => .int (i % j)) (mUn intD (mBin addD (mBin addD (mVarT 4) (mBin (intOpC mulOk fun i j => .int (i * j)) (mC (.int 7919)) (mVarT 2))) (mC (.int 13)))) (mC (.int 2147483647))))
      (mSeq (mSet 5 (mBin (intOpC (fun _ j => decide (0 < j)) fun i j => .int (i % j)) (mUn intD (mBin (intOpC mulOk fun i j => .int (i * j)) (mVarT 5) (mBin addD (mVarT 5) (mC (.int 48271))))) (mC (.int 2147483629))))
      (mSeq (mSet 5 (mBin (intOpC (fun _ j => decide (0 < j)) fun i j => .int (i % j)) (mUn intD (mBin addD (mBin (intOpC mulOk fun i j => .int (i * j)) (mVarT 5) (mBin addD (mVarT 5) (mC (.int 69621)))) (mBin (intOpC mulOk fun i j => .int (i * j)) (mC (.int 31)) (mVarT 2)))) (mC (.int 2147483647))))
      (mRet (mBin (intOpC (fun _ j => decide (0 < j)) fun i j => .int (i % j)) (mUn intD (mBin (intOpC divOk fun i j => .int (i / j)) (mVarT 5) (mC (.int 9)))) (mVarT 3))))))))
def m__law_draw : List D → Option D := callM 4 8 b__law_draw
theorem fn__law_draw {f : Addr} {fd : FuncData} (F : FunD K "_law_draw" "_law_draw" (defArgs s__law_draw) (defBody s__law_draw) (defScope s__law_draw) [] [] f fd) (c__law_cell : Cal P w K mg base "_law_cell" 1 2 m__law_cell) (h_range : mg "range" = none) (h_int : mg "int" = none) : FnOk P w K mg base CX0 2 f fd ["script", "at", "k", "size"] (spD K 4 m__law_draw) :=
  fn_mk (N := N__law_draw) (m := b__law_draw) F sc__law_draw rfl (fun cdv A outer s H E hr =>
      (dss_cons (ds_set 4 sc__law_draw.nd (de_call c__law_cell (hr.mono (by decide)) (da_cons (de_var 0) (da_cons (de_var 1) da_nil))))
      (dss_cons (ds_if (db_cmp op_ge od_ge (dt_var 4) (DE.t (de_pow (DE.t de_int) (DE.t de_int)))) (dss_cons (ds_set 6 sc__law_draw.nd (de_var 4))
      (dss_cons (ds_for PassesOwn.never rfl (di_range1 h_range (dt_var 2)) (dg_name 7 sc__law_draw.nd) (dss_one (ds_set 6 sc__law_draw.nd (de_fdiv (dt_var 6) (DE.t de_int)))))
      (dss_one (ds_if (db_cmp op_gt od_gt (dt_var 6) (DE.t de_int)) (dss_one (ds_ret (DE.t (de_mod (DE.t (de_mod (DE.t (de_int1 h_int (dt_var 6))) (DE.t de_int))) (dt_var 3))))) dss_nil)))) dss_nil)
      (dss_cons (ds_set 5 sc__law_draw.nd (de_mod (DE.t (de_int1 h_int (DE.t (de_add (DE.t (de_add (dt_var 4) (DE.t (de_mul (DE.t de_int) (dt_var 2))))) (DE.t de_int))))) (DE.t de_int)))
      (dss_cons (ds_set 5 sc__law_draw.nd (de_mod (DE.t (de_int1 h_int (DE.t (de_mul (dt_var 5) (DE.t (de_add (dt_var 5) (DE.t de_int))))))) (DE.t de_int)))
      (dss_cons (ds_set 5 sc__law_draw.nd (de_mod (DE.t (de_int1 h_int (DE.t (de_add (DE.t (de_mul (dt_var 5) (DE.t (de_add (dt_var 5) (DE.t de_int))))) (DE.t (de_mul (DE.t de_int) (dt_var 2))))))) (DE.t de_int)))
      (dss_one (ds_ret (DE.t (de_mod (DE.t (de_int1 h_int (DE.t (de_fdiv (dt_var 5) (DE.t de_int))))) (dt_var 3)))))))))))
theorem bd__law_draw (kV doc pm : Value) (an : Option Addr) (cdv ct : Value) (us : List Value) (hl : us.length = ["script", "at", "k", "size"].length) : bindArgs (PySem.W.fnOf "_law_draw" "_law_draw" (defArgs s__law_draw) (defBody s__law_draw) (defScope s__law_draw) .none kV doc pm an cdv ct) ⟨us, []⟩ = pure ((["script", "at", "k", "size"] : List Str).zip us) := match us, hl with | [_, _, _, _], _ => rfl
theorem cal__law_draw (F : Stands K mg "_law_draw" s__law_draw) (c__law_cell : Cal P w K mg base "_law_cell" 1 2 m__law_cell) (h_range : mg "range" = none) (h_int : mg "int" = none) : Cal P w K mg base "_law_draw" 2 4 m__law_draw :=
  cal_of F bd__law_draw fun F => fn__law_draw F c__law_cell h_range h_int

abbrev s__law_digits : Stmt := topS 18
abbrev N__law_digits : List Str := ["script", "at", "count", "digits", "mixed", "k"]
theorem sc__law_digits : FnScope N__law_digits ["script", "at", "count"] (defScope s__law_digits) := ⟨rfl, rfl, rfl, by decide +kernel, rfl, by decide +kernel, by decide +kernel⟩
def b__law_digits : En → Option Out :=
      (mSeq (mSetO 3 (mComp [5] (fun E => ((mBin minD (mVarT 2) (mC (.int 24))) E).bind rg1) (gM 5) mYes (mCall 4 m__law_draw (mCons (mVar 0) (mCons (mVar 1) (mCons (mVar 5) (mCons (mC (.int 1000003)) mNil)))))))
      (mSeq (mSet 4 (mCall 4 m__law_draw (mCons (mVar 0) (mCons (mVar 1) (mCons (mC (.int 40)) (mCons (mC (.int 1000003)) mNil))))))
      (mSeq (mFor (fun E => ((mC (.int 24)) E).bind fun x => ((mVarT 2) E).bind fun y => rg2 x y) (gM 5) (mSeq (mSet 4 (mBin (intOpC (fun _ j => decide (0 < j)) fun i j => .int (i % j)) (mUn intD (mBin addD (mBin addD (mBin (intOpC mulOk fun i j => .int (i * j)) (mVarT 4) (mC (.int 48271))) (mBin (intOpC mulOk fun i j => .int (i * j)) (mC (.int 7919)) (mVarT 5))) (mC (.int 11)))) (mC (.int 2147483647))))
      (mApp 3 (mUn intD (mBin (intOpC divOk fun i j => .int (i / j)) (mVarT 4) (mC (.int 9)))))))
      (mRetO 3))))
def m__law_digits : List D → Option D := callM 3 6 b__law_digits
theorem fn__law_digits {f : Addr} {fd : FuncData} (F : FunD K "_law_digits" "_law_digits" (defArgs s__law_digits) (defBody s__law_digits) (defScope s__law_digits) [] [] f fd) (c__law_draw : Cal P w K mg base "_law_draw" 2 4 m__law_draw) (h_min : mg "min" = none) (h_range : mg "range" = none) (h_int : mg "int" = none) : FnOk P w K mg base CX0 3 f fd ["script", "at", "count"] (spD K 3 m__law_digits) :=
  fn_mk (N := N__law_digits) (m := b__law_digits) F sc__law_digits rfl (fun cdv A outer s H E hr =>
      (dss_cons (ds_setLc 3 (own := [("k", 5)]) rfl sc__law_digits.nd (DI.t (di_range1 h_range (DE.t (de_min2 rfl h_min (dt_var 2) (DE.t de_int))))) (blkOk_by (N := N__law_digits) (sc := defScope s__law_digits) (by decide +kernel)) (by decide) (fun _ _ _ _ _ => (dg_name 5 sc__law_digits.nd)) (fun _ _ _ _ _ => dts_nil) (fun _ _ _ _ _ => (de_call c__law_draw (hr.mono (by decide)) (da_cons (de_var 0) (da_cons (de_var 1) (da_cons (de_var 5) (da_cons de_int da_nil)))))) (sw_true rfl rfl rfl (by decide +kernel)))
      (dss_cons (ds_set 4 sc__law_digits.nd (de_call c__law_draw (hr.mono (by decide)) (da_cons (de_var 0) (da_cons (de_var 1) (da_cons de_int (da_cons de_int da_nil))))))
      (dss_cons (ds_for PassesOwn.never rfl (di_range2 h_range (DE.t de_int) (dt_var 2)) (dg_name 5 sc__law_digits.nd) (dss_cons (ds_set 4 sc__law_digits.nd (de_mod (DE.t (de_int1 h_int (DE.t (de_add (DE.t (de_add (DE.t (de_mul (dt_var 4) (DE.t de_int))) (DE.t (de_mul (DE.t de_int) (dt_var 5))))) (DE.t de_int))))) (DE.t de_int)))
      (dss_one (ds_app 3 (de_int1 h_int (DE.t (de_fdiv (dt_var 4) (DE.t de_int))))))))
      (dss_one (ds_retO 3))))))
theorem bd__law_digits (kV doc pm : Value) (an : Option Addr) (cdv ct : Value) (us : List Value) (hl : us.length = ["script", "at", "count"].length) : bindArgs (PySem.W.fnOf "_law_digits" "_law_digits" (defArgs s__law_digits) (defBody s__law_digits) (defScope s__law_digits) .none kV doc pm an cdv ct) ⟨us, []⟩ = pure ((["script", "at", "count"] : List Str).zip us) := match us, hl with | [_, _, _], _ => rfl
theorem cal__law_digits (F : Stands K mg "_law_digits" s__law_digits) (c__law_draw : Cal P w K mg base "_law_draw" 2 4 m__law_draw) (h_min : mg "min" = none) (h_range : mg "range" = none) (h_int : mg "int" = none) : Cal P w K mg base "_law_digits" 3 3 m__law_digits :=
  cal_of F bd__law_digits fun F => fn__law_digits F c__law_draw h_min h_range h_int

abbrev s__law_order : Stmt := topS 19
abbrev N__law_order : List Str := ["script", "at", "count", "digits", "order", "k"]
theorem sc__law_order : FnScope N__law_order ["script", "at", "count"] (defScope s__law_order) := ⟨rfl, rfl, rfl, by decide +kernel, rfl, by decide +kernel, by decide +kernel⟩
def b__law_order : En → Option Out :=
      (mSeq (mSet 3 (mCall 3 m__law_digits (mCons (mVar 0) (mCons (mVar 1) (mCons (mVar 2) mNil)))))
      (mSeq (mSetO 4 (mLst mNil))
      (mSeq (mFor (fun E => ((mVarT 2) E).bind rg1) (gM 5) (mIns 4 (mBin (intOpC (fun _ j => decide (0 < j)) fun i j => .int (i % j)) (mUn intD (mBin ixD (mVarT 3) (mVarT 5))) (mBin addD (mVarT 5) (mC (.int 1)))) (mVar 5)))
      (mRetO 4))))
def m__law_order : List D → Option D := callM 3 6 b__law_order
theorem fn__law_order {f : Addr} {fd : FuncData} (F : FunD K "_law_order" "_law_order" (defArgs s__law_order) (defBody s__law_order) (defScope s__law_order) [] [] f fd) (c__law_digits : Cal P w K mg base "_law_digits" 3 3 m__law_digits) (h_range : mg "range" = none) (h_int : mg "int" = none) : FnOk P w K mg base CX0 4 f fd ["script", "at", "count"] (spD K 3 m__law_order) :=
  fn_mk (N := N__law_order) (m := b__law_order) F sc__law_order rfl (fun cdv A outer s H E hr =>
      (dss_cons (ds_set 3 sc__law_order.nd (de_call c__law_digits (hr.mono (by decide)) (da_cons (de_var 0) (da_cons (de_var 1) (da_cons (de_var 2) da_nil)))))
      (dss_cons (ds_setO 4 sc__law_order.nd (df_lst da_nil))
      (dss_cons (ds_for PassesOwn.never rfl (di_range1 h_range (dt_var 2)) (dg_name 5 sc__law_order.nd) (dss_one (ds_ins 4 (de_mod (DE.t (de_int1 h_int (DE.t (de_ix (dt_var 3) (dt_var 5))))) (DE.t (de_add (dt_var 5) (DE.t de_int)))) (de_var 5))))
      (dss_one (ds_retO 4))))))
theorem bd__law_order (kV doc pm : Value) (an : Option Addr) (cdv ct : Value) (us : List Value) (hl : us.length = ["script", "at", "count"].length) : bindArgs (PySem.W.fnOf "_law_order" "_law_order" (defArgs s__law_order) (defBody s__law_order) (defScope s__law_order) .none kV doc pm an cdv ct) ⟨us, []⟩ = pure ((["script", "at", "count"] : List Str).zip us) := match us, hl with | [_, _, _], _ => rfl
theorem cal__law_order (F : Stands K mg "_law_order" s__law_order) (c__law_digits : Cal P w K mg base "_law_digits" 3 3 m__law_digits) (h_range : mg "range" = none) (h_int : mg "int" = none) : Cal P w K mg base "_law_order" 4 3 m__law_order :=
  cal_of F bd__law_order fun F => fn__law_order F c__law_digits h_range h_int

abbrev s__law_extra : Stmt := topS 20
abbrev N__law_extra : List Str := ["digits", "entries", "count", "shape", "old", "tail", "head", "kind"]
theorem sc__law_extra : FnScope N__law_extra ["digits", "entries", "count", "shape"] (defScope s__law_extra) := ⟨rfl, rfl, rfl, by decide +kernel, rfl, by decide +kernel, by decide +kernel⟩
def b__law_extra : En → Option Out :=
      (mSeq (mSet 4 (mBin ixD (mBin ixD (mVarT 1) (mBin (intOpC (fun _ j => decide (0 < j)) fun i j => .int (i % j)) (mUn intD (mBin ixD (mVarT 0) (mC (.int 1)))) (mUn lenD (mVarT 1)))) (mC (.int 1))))
      (mSeq (mSet 5 (mBin (intOpC (fun _ j => decide (0 < j)) fun i j => .int (i % j)) (mUn intD (mBin ixD (mVarT 0) (mC (.int 1)))) (mVarT 2)))
      (mSeq (mSet 6 (mBin (intOpC (fun _ j => decide (0 < j)) fun i j => .int (i % j)) (mUn intD (mBin addD (mBin addD (mVarT 5) (mC (.int 1))) (mBin (intOpC (fun _ j => decide (0 < j)) fun i j => .int (i % j)) (mUn intD (mBin ixD (mVarT 0) (mC (.int 2)))) (mBin (intOp fun i j => .int (i - j)) (mVarT 2) (mC (.int 1)))))) (mVarT 2)))
      (mSeq (mSet 7 (mBin (intOpC (fun _ j => decide (0 < j)) fun i j => .int (i % j)) (mUn intD (mBin ixD (mVarT 0) (mC (.int 0)))) (mC (.int 4))))
      (mSeq (mIfS (fun E => ((mBin eqD (mVarT 3) (mC (.int 1))) E).bind blOf) (mSeq (mSet 5 (mC (.int 0)))
      (mSet 6 (mBin addD (mC (.int 1)) (mBin (intOpC (fun _ j => decide (0 < j)) fun i j => .int (i % j)) (mUn intD (mBin ixD (mVarT 0) (mC (.int 1)))) (mBin (intOp fun i j => .int (i - j)) (mVarT 2) (mC (.int 1))))))) mNext)
      (mSeq (mIfS (fun E => ((mBin eqD (mVarT 3) (mC (.int 2))) E).bind blOf) (mSet 7 (mBin (intOpC (fun _ j => decide (0 < j)) fun i j => .int (i % j)) (mUn intD (mVarT 7)) (mC (.int 2)))) mNext)
      (mSeq (mIfS (mAnd (fun E => ((mBin eqD (mVarT 7) (mC (.int 0))) E).bind blOf) (fun E => ((mBin neD (mVarT 3) (mC (.int 1))) E).bind blOf)) (mRet (mVarT 4)) mNext)
      (mSeq (mIfS (mAnd (fun E => ((mBin eqD (mVarT 7) (mC (.int 1))) E).bind blOf) (fun E => ((mBin neD (mVarT 3) (mC (.int 1))) E).bind blOf)) (mRet (mTup (mCons (mBin ixD (mVarT 4) (mC (.int 1))) (mCons (mBin ixD (mVarT 4) (mC (.int 0))) mNil)))) mNext)
      (mSeq (mIfS (fun E => ((mBin eqD (mVarT 7) (mC (.int 3))) E).bind blOf) (mRet (mTup (mCons (mVar 6) (mCons (mVar 5) mNil)))) mNext)
      (mRet (mTup (mCons (mVar 5) (mCons (mVar 6) mNil)))))))))))))
def m__law_extra : List D → Option D := callM 4 8 b__law_extra
theorem fn__law_extra {f : Addr} {fd : FuncData} (F : FunD K "_law_extra" "_law_extra" (defArgs s__law_extra) (defBody s__law_extra) (defScope s__law_extra) [] [] f fd) (h_int : mg "int" = none) (h_len : mg "len" = none) : FnOk P w K mg base CX0 1 f fd ["digits", "entries", "count", "shape"] (spD K 4 m__law_extra) :=
  fn_mk (N := N__law_extra) (m := b__law_extra) F sc__law_extra rfl (fun cdv A outer s H E hr =>
      (dss_cons (ds_set 4 sc__law_extra.nd (de_ix (DE.t (de_ix (dt_var 1) (DE.t (de_mod (DE.t (de_int1 h_int (DE.t (de_ix (dt_var 0) (DE.t de_int))))) (DE.t (de_len h_len (dt_var 1))))))) (DE.t de_int)))
      (dss_cons (ds_set 5 sc__law_extra.nd (de_mod (DE.t (de_int1 h_int (DE.t (de_ix (dt_var 0) (DE.t de_int))))) (dt_var 2)))
      (dss_cons (ds_set 6 sc__law_extra.nd (de_mod (DE.t (de_int1 h_int (DE.t (de_add (DE.t (de_add (dt_var 5) (DE.t de_int))) (DE.t (de_mod (DE.t (de_int1 h_int (DE.t (de_ix (dt_var 0) (DE.t de_int))))) (DE.t (de_sub (dt_var 2) (DE.t de_int))))))))) (dt_var 2)))
      (dss_cons (ds_set 7 sc__law_extra.nd (de_mod (DE.t (de_int1 h_int (DE.t (de_ix (dt_var 0) (DE.t de_int))))) (DE.t de_int)))
      (dss_cons (ds_if (db_cmp (op_eqAll hr) od_eq (dt_var 3) (DE.t de_int)) (dss_cons (ds_set 5 sc__law_extra.nd de_int)
      (dss_one (ds_set 6 sc__law_extra.nd (de_add (DE.t de_int) (DE.t (de_mod (DE.t (de_int1 h_int (DE.t (de_ix (dt_var 0) (DE.t de_int))))) (DE.t (de_sub (dt_var 2) (DE.t de_int))))))))) dss_nil)
      (dss_cons (ds_if (db_cmp (op_eqAll hr) od_eq (dt_var 3) (DE.t de_int)) (dss_one (ds_set 7 sc__law_extra.nd (de_mod (DE.t (de_int1 h_int (dt_var 7))) (DE.t de_int)))) dss_nil)
      (dss_cons (ds_if (DW.toB (dw_and (db_cmp (op_eqAll hr) od_eq (dt_var 7) (DE.t de_int)) (dw_and1 (db_cmp (op_neAll hr) od_ne (dt_var 3) (DE.t de_int))))) (dss_one (ds_ret (dt_var 4))) dss_nil)
      (dss_cons (ds_if (DW.toB (dw_and (db_cmp (op_eqAll hr) od_eq (dt_var 7) (DE.t de_int)) (dw_and1 (db_cmp (op_neAll hr) od_ne (dt_var 3) (DE.t de_int))))) (dss_one (ds_ret (DE.t (de_tup (da_cons (de_ix (dt_var 4) (DE.t de_int)) (da_cons (de_ix (dt_var 4) (DE.t de_int)) da_nil)))))) dss_nil)
      (dss_cons (ds_if (db_cmp (op_eqAll hr) od_eq (dt_var 7) (DE.t de_int)) (dss_one (ds_ret (DE.t (de_tup (da_cons (de_var 6) (da_cons (de_var 5) da_nil)))))) dss_nil)
      (dss_one (ds_ret (DE.t (de_tup (da_cons (de_var 5) (da_cons (de_var 6) da_nil))))))))))))))))
theorem bd__law_extra (kV doc pm : Value) (an : Option Addr) (cdv ct : Value) (us : List Value) (hl : us.length = ["digits", "entries", "count", "shape"].length) : bindArgs (PySem.W.fnOf "_law_extra" "_law_extra" (defArgs s__law_extra) (defBody s__law_extra) (defScope s__law_extra) .none kV doc pm an cdv ct) ⟨us, []⟩ = pure ((["digits", "entries", "count", "shape"] : List Str).zip us) := match us, hl with | [_, _, _, _], _ => rfl
theorem cal__law_extra (F : Stands K mg "_law_extra" s__law_extra) (h_int : mg "int" = none) (h_len : mg "len" = none) : Cal P w K mg base "_law_extra" 1 4 m__law_extra :=
  cal_of F bd__law_extra fun F => fn__law_extra F h_int h_len

abbrev s__law_net : Stmt := topS 21
abbrev N__law_net : List Str := ["script", "large", "count", "extras", "shape", "width", "order", "turns", "entries", "j", "digits", "k", "spots", "shuffled", "ring", "start", "end", "entry"]
theorem sc__law_net : FnScope N__law_net ["script", "large"] (defScope s__law_net) := ⟨rfl, rfl, rfl, by decide +kernel, rfl, by decide +kernel, by decide +kernel⟩
def b__law_net : En → Option Out :=
      (mSeq (mSet 2 (mBin addD (mC (.int 2)) (mCall 4 m__law_draw (mCons (mVar 0) (mCons (mC (.int 0)) (mCons (mC (.int 1)) (mCons (mC (.int 8)) mNil)))))))
      (mSeq (mSet 3 (mCall 4 m__law_draw (mCons (mVar 0) (mCons (mC (.int 0)) (mCons (mC (.int 2)) (mCons (mC (.int 7)) mNil))))))
      (mSeq (mSet 4 (mC (.int 0)))
      (mSeq (mIfS (fun E => ((mVarT 1) E).bind truD) (mSeq (mSet 4 (mCall 4 m__law_draw (mCons (mVar 0) (mCons (mC (.int 0)) (mCons (mC (.int 3)) (mCons (mC (.int 3)) mNil))))))
      (mSet 2 (mBin (intOp fun i j => .int (i - j)) (mC (.int 400)) (mBin (intOpC mulOk fun i j => .int (i * j)) (mCall 4 m__law_draw (mCons (mVar 0) (mCons (mC (.int 0)) (mCons (mC (.int 4)) (mCons (mC (.int 2)) mNil))))) (mCall 4 m__law_draw (mCons (mVar 0) (mCons (mC (.int 0)) (mCons (mC (.int 5)) (mCons (mC (.int 391)) mNil))))))))) mNext)
      (mSeq (mSet 5 (mBin addD (mC (.int 2)) (mCall 4 m__law_draw (mCons (mVar 0) (mCons (mC (.int 0)) (mCons (mC (.int 6)) (mCons (mBin (intOp fun i j => .int (i - j)) (mVarT 2) (mC (.int 1))) mNil)))))))
      (mSeq (mIfS (fun E => ((mBin eqD (mVarT 4) (mC (.int 2))) E).bind blOf) (mSet 5 (mBin addD (mC (.int 2)) (mCall 4 m__law_draw (mCons (mVar 0) (mCons (mC (.int 0)) (mCons (mC (.int 7)) (mCons (mC (.int 5)) mNil))))))) (mIfS (mAnd (fun E => ((mVarT 1) E).bind truD) (fun E => ((mBin eqD (mCall 4 m__law_draw (mCons (mVar 0) (mCons (mC (.int 0)) (mCons (mC (.int 8)) (mCons (mC (.int 3)) mNil))))) (mC (.int 0))) E).bind blOf)) (mSet 5 (mVar 2)) mNext))
      (mSeq (mIfS (fun E => ((mVarT 1) E).bind truD) (mSet 3 (mBin (intOp fun i j => .int (i - j)) (mC (.int 600)) (mVarT 5))) mNext)
      (mSeq (mSet 6 (mCall 3 m__law_order (mCons (mVar 0) (mCons (mC (.int 1)) (mCons (mVar 2) mNil)))))
      (mSeq (mSet 7 (mCall 3 m__law_digits (mCons (mVar 0) (mCons (mC (.int 2)) (mCons (mVar 5) mNil)))))
      (mSeq (mSetO 8 (mLst (mCons (mTup (mCons (mC (.int 0)) (mCons (mTup (mCons (mBin ixD (mVarT 6) (mC (.int 0))) (mCons (mBin ixD (mVarT 6) (mC (.int 1))) mNil))) (mCons (mC (.int 1)) mNil)))) mNil)))
      (mSeq (mFor (fun E => ((mC (.int 1)) E).bind fun x => ((mVarT 5) E).bind fun y => rg2 x y) (gM 9) (mSeq (mSet 15 (mBin ixD (mVarT 6) (mVarT 9)))
      (mSeq (mSet 16 (mBin ixD (mVarT 6) (mBin (intOpC (fun _ j => decide (0 < j)) fun i j => .int (i % j)) (mUn intD (mBin addD (mVarT 9) (mC (.int 1)))) (mVarT 5))))
      (mIfS (fun E => ((mBin eqD (mBin (intOpC (fun _ j => decide (0 < j)) fun i j => .int (i % j)) (mUn intD (mBin ixD (mVarT 7) (mVarT 9))) (mC (.int 2))) (mC (.int 0))) E).bind blOf) (mApp 8 (mTup (mCons (mVar 9) (mCons (mTup (mCons (mVar 15) (mCons (mVar 16) mNil))) (mCons (mC (.int 1)) mNil))))) (mApp 8 (mTup (mCons (mVar 9) (mCons (mTup (mCons (mVar 16) (mCons (mVar 15) mNil))) (mCons (mUn negD (mC (.int 1))) mNil)))))))))
      (mSeq (mSet 10 (mCall 3 m__law_digits (mCons (mVar 0) (mCons (mC (.int 3)) (mCons (mBin (intOpC mulOk fun i j => .int (i * j)) (mC (.int 3)) (mVarT 3)) mNil)))))
      (mSeq (mFor (fun E => ((mVarT 3) E).bind rg1) (gM 11) (mApp 8 (mTup (mCons (mUn negD (mC (.int 1))) (mCons (mCallT 4 m__law_extra (mCons (mList (fun E => (((mVarT 10) E).bind lstOf).bind fun ds => ((fun E => ((mBin (intOpC mulOk fun i j => .int (i * j)) (mC (.int 3)) (mVarT 11)) E).bind inOf) E).bind fun l => ((fun E => ((mBin addD (mBin (intOpC mulOk fun i j => .int (i * j)) (mC (.int 3)) (mVarT 11)) (mC (.int 3))) E).bind inOf) E).map fun h => cutD ds l h)) (mCons (mVarT 8) (mCons (mVarT 2) (mCons (mVarT 4) mNil))))) (mCons (mC (.int 1)) mNil))))))
      (mSeq (mSet 12 (mCall 3 m__law_digits (mCons (mVar 0) (mCons (mC (.int 4)) (mCons (mUn lenD (mVarT 8)) mNil)))))
      (mSeq (mSetO 13 (mLst mNil))
      (mSeq (mFor (fun E => ((mUn lenD (mVarT 8)) E).bind rg1) (gM 11) (mIns 13 (mBin (intOpC (fun _ j => decide (0 < j)) fun i j => .int (i % j)) (mUn intD (mBin ixD (mVarT 12) (mVarT 11))) (mBin addD (mVarT 11) (mC (.int 1)))) (mBin ixD (mVarT 8) (mVarT 11))))
      (mSeq (mSetO 14 (fun E => ((mList (mLst (mCons (mTup (mCons (mC (.int 0)) (mCons (mC (.int 1)) mNil))) mNil))) E).bind fun x => ((mVarT 5) E).bind fun y => repD x y))
      (mSeq (mFor (fun E => ((mUn lenD (mVarT 13)) E).bind rg1) (gM 11) (mIfS (fun E => ((mBin (intOp fun i j => .bl (decide (j ≤ i))) (mBin ixD (mBin ixD (mVarT 13) (mVarT 11)) (mC (.int 0))) (mC (.int 0))) E).bind blOf) (mSub 14 (mTup (mCons (mVar 11) (mCons (mBin ixD (mBin ixD (mVarT 13) (mVarT 11)) (mC (.int 2))) mNil))) (mBin ixD (mBin ixD (mVarT 13) (mVarT 11)) (mC (.int 0)))) mNext))
      (mFrz 14 (mRet (mTup (mCons (mVar 2) (mCons (mList (mComp [17] (fun E => ((mVarT 13) E).bind lstOf) (gM 17) mYes (mBin ixD (mVarT 17) (mC (.int 1))))) (mCons (mVar 14) mNil))))))))))))))))))))))))
def m__law_net : List D → Option D := callM 2 18 b__law_net
theorem fn__law_net {f : Addr} {fd : FuncData} (F : FunD K "_law_net" "_law_net" (defArgs s__law_net) (defBody s__law_net) (defScope s__law_net) [] [] f fd) (c__law_draw : Cal P w K mg base "_law_draw" 2 4 m__law_draw) (c__law_order : Cal P w K mg base "_law_order" 4 3 m__law_order) (c__law_digits : Cal P w K mg base "_law_digits" 3 3 m__law_digits) (c__law_extra : Cal P w K mg base "_law_extra" 1 4 m__law_extra) (h_range : mg "range" = none) (h_int : mg "int" = none) (h_len : mg "len" = none) : FnOk P w K mg base CX0 5 f fd ["script", "large"] (spD K 2 m__law_net) :=
  fn_mk (N := N__law_net) (m := b__law_net) F sc__law_net rfl (fun cdv A outer s H E hr =>
      (dss_cons (ds_set 2 sc__law_net.nd (de_add (DE.t de_int) (DE.t (de_call c__law_draw (hr.mono (by decide)) (da_cons (de_var 0) (da_cons de_int (da_cons de_int (da_cons de_int da_nil))))))))
      (dss_cons (ds_set 3 sc__law_net.nd (de_call c__law_draw (hr.mono (by decide)) (da_cons (de_var 0) (da_cons de_int (da_cons de_int (da_cons de_int da_nil))))))
      (dss_cons (ds_set 4 sc__law_net.nd de_int)
      (dss_cons (ds_if (db_tru (dt_var 1)) (dss_cons (ds_set 4 sc__law_net.nd (de_call c__law_draw (hr.mono (by decide)) (da_cons (de_var 0) (da_cons de_int (da_cons de_int (da_cons de_int da_nil))))))
      (dss_one (ds_set 2 sc__law_net.nd (de_sub (DE.t de_int) (DE.t (de_mul (DE.t (de_call c__law_draw (hr.mono (by decide)) (da_cons (de_var 0) (da_cons de_int (da_cons de_int (da_cons de_int da_nil)))))) (DE.t (de_call c__law_draw (hr.mono (by decide)) (da_cons (de_var 0) (da_cons de_int (da_cons de_int (da_cons de_int da_nil)))))))))))) dss_nil)
      (dss_cons (ds_set 5 sc__law_net.nd (de_add (DE.t de_int) (DE.t (de_call c__law_draw (hr.mono (by decide)) (da_cons (de_var 0) (da_cons de_int (da_cons de_int (da_cons (de_sub (dt_var 2) (DE.t de_int)) da_nil))))))))
      (dss_cons (ds_if (db_cmp (op_eqAll hr) od_eq (dt_var 4) (DE.t de_int)) (dss_one (ds_set 5 sc__law_net.nd (de_add (DE.t de_int) (DE.t (de_call c__law_draw (hr.mono (by decide)) (da_cons (de_var 0) (da_cons de_int (da_cons de_int (da_cons de_int da_nil))))))))) (dss_one (ds_if (DW.toB (dw_and (db_tru (dt_var 1)) (dw_and1 (db_cmp (op_eqAll hr) od_eq (DE.t (de_call c__law_draw (hr.mono (by decide)) (da_cons (de_var 0) (da_cons de_int (da_cons de_int (da_cons de_int da_nil)))))) (DE.t de_int))))) (dss_one (ds_set 5 sc__law_net.nd (de_var 2))) dss_nil)))
      (dss_cons (ds_if (db_tru (dt_var 1)) (dss_one (ds_set 3 sc__law_net.nd (de_sub (DE.t de_int) (dt_var 5)))) dss_nil)
      (dss_cons (ds_set 6 sc__law_net.nd (de_call c__law_order (hr.mono (by decide)) (da_cons (de_var 0) (da_cons de_int (da_cons (de_var 2) da_nil)))))
      (dss_cons (ds_set 7 sc__law_net.nd (de_call c__law_digits (hr.mono (by decide)) (da_cons (de_var 0) (da_cons de_int (da_cons (de_var 5) da_nil)))))
      (dss_cons (ds_setO 8 sc__law_net.nd (df_lst (da_cons (de_tup (da_cons de_int (da_cons (de_tup (da_cons (de_ix (dt_var 6) (DE.t de_int)) (da_cons (de_ix (dt_var 6) (DE.t de_int)) da_nil))) (da_cons de_int da_nil)))) da_nil)))
      (dss_cons (ds_for PassesOwn.never rfl (di_range2 h_range (DE.t de_int) (dt_var 5)) (dg_name 9 sc__law_net.nd) (dss_cons (ds_set 15 sc__law_net.nd (de_ix (dt_var 6) (dt_var 9)))
      (dss_cons (ds_set 16 sc__law_net.nd (de_ix (dt_var 6) (DE.t (de_mod (DE.t (de_int1 h_int (DE.t (de_add (dt_var 9) (DE.t de_int))))) (dt_var 5)))))
      (dss_one (ds_if (db_cmp (op_eqAll hr) od_eq (DE.t (de_mod (DE.t (de_int1 h_int (DE.t (de_ix (dt_var 7) (dt_var 9))))) (DE.t de_int))) (DE.t de_int)) (dss_one (ds_app 8 (de_tup (da_cons (de_var 9) (da_cons (de_tup (da_cons (de_var 15) (da_cons (de_var 16) da_nil))) (da_cons de_int da_nil)))))) (dss_one (ds_app 8 (de_tup (da_cons (de_var 9) (da_cons (de_tup (da_cons (de_var 16) (da_cons (de_var 15) da_nil))) (da_cons (de_neg (DE.t de_int)) da_nil)))))))))))
      (dss_cons (ds_set 10 sc__law_net.nd (de_call c__law_digits (hr.mono (by decide)) (da_cons (de_var 0) (da_cons de_int (da_cons (de_mul (DE.t de_int) (dt_var 3)) da_nil)))))
      (dss_cons (ds_for PassesOwn.never rfl (di_range1 h_range (dt_var 3)) (dg_name 11 sc__law_net.nd) (dss_one (ds_app 8 (de_tup (da_cons (de_neg (DE.t de_int)) (da_cons (de_callT c__law_extra (hr.mono (by decide)) (dat_cons (DF.t (df_slice (dt_var 10) (do_some (DE.t (de_mul (DE.t de_int) (dt_var 11)))) (do_some (DE.t (de_add (DE.t (de_mul (DE.t de_int) (dt_var 11))) (DE.t de_int)))))) (dat_cons (dt_var 8) (dat_cons (dt_var 2) (dat_cons (dt_var 4) dat_nil))))) (da_cons de_int da_nil)))))))
      (dss_cons (ds_set 12 sc__law_net.nd (de_call c__law_digits (hr.mono (by decide)) (da_cons (de_var 0) (da_cons de_int (da_cons (de_len h_len (dt_var 8)) da_nil)))))
      (dss_cons (ds_setO 13 sc__law_net.nd (df_lst da_nil))
      (dss_cons (ds_for PassesOwn.never rfl (di_range1 h_range (DE.t (de_len h_len (dt_var 8)))) (dg_name 11 sc__law_net.nd) (dss_one (ds_ins 13 (de_mod (DE.t (de_int1 h_int (DE.t (de_ix (dt_var 12) (dt_var 11))))) (DE.t (de_add (dt_var 11) (DE.t de_int)))) (de_ix (dt_var 8) (dt_var 11)))))
      (dss_cons (ds_setO 14 sc__law_net.nd (df_rep (DF.t (df_lst (da_cons (de_tup (da_cons de_int (da_cons de_int da_nil))) da_nil))) (dt_var 5)))
      (dss_cons (ds_for PassesOwn.never rfl (di_range1 h_range (DE.t (de_len h_len (dt_var 13)))) (dg_name 11 sc__law_net.nd) (dss_one (ds_if (db_cmp op_ge od_ge (DE.t (de_ix (DE.t (de_ix (dt_var 13) (dt_var 11))) (DE.t de_int))) (DE.t de_int)) (dss_one (ds_sub 14 (de_tup (da_cons (de_var 11) (da_cons (de_ix (DE.t (de_ix (dt_var 13) (dt_var 11))) (DE.t de_int)) da_nil))) (de_ix (DE.t (de_ix (dt_var 13) (dt_var 11))) (DE.t de_int)))) dss_nil)))
      (dss_one (ds_frz 14 (ds_ret (DE.t (de_tup (da_cons (de_var 2) (da_cons (DF.toE (df_lc (own := [("entry", 17)]) rfl sc__law_net.nd (dit_list (dt_var 13)) (blkOk_by (N := N__law_net) (sc := defScope s__law_net) (by decide +kernel)) (by decide) (fun _ _ _ _ _ => (dg_name 17 sc__law_net.nd)) (fun _ _ _ _ _ => dts_nil) (fun _ _ _ _ _ => (de_ix (dt_var 17) (DE.t de_int))))) (da_cons (de_var 14) da_nil)))))))))))))))))))))))))))
theorem bd__law_net (kV doc pm : Value) (an : Option Addr) (cdv ct : Value) (us : List Value) (hl : us.length = ["script", "large"].length) : bindArgs (PySem.W.fnOf "_law_net" "_law_net" (defArgs s__law_net) (defBody s__law_net) (defScope s__law_net) .none kV doc pm an cdv ct) ⟨us, []⟩ = pure ((["script", "large"] : List Str).zip us) := match us, hl with | [_, _], _ => rfl
theorem cal__law_net (F : Stands K mg "_law_net" s__law_net) (c__law_draw : Cal P w K mg base "_law_draw" 2 4 m__law_draw) (c__law_order : Cal P w K mg base "_law_order" 4 3 m__law_order) (c__law_digits : Cal P w K mg base "_law_digits" 3 3 m__law_digits) (c__law_extra : Cal P w K mg base "_law_extra" 1 4 m__law_extra) (h_range : mg "range" = none) (h_int : mg "int" = none) (h_len : mg "len" = none) : Cal P w K mg base "_law_net" 5 2 m__law_net :=
  cal_of F bd__law_net fun F => fn__law_net F c__law_draw c__law_order c__law_digits c__law_extra h_range h_int h_len

abbrev s__law_paint : Stmt := topS 22
abbrev N__law_paint : List Str := ["script", "at", "many", "share", "number"]
theorem sc__law_paint : FnScope N__law_paint ["script", "at", "many"] (defScope s__law_paint) := ⟨rfl, rfl, rfl, by decide +kernel, rfl, by decide +kernel, by decide +kernel⟩
def b__law_paint : En → Option Out :=
      (mSeq (mSet 3 (mCall 4 m__law_draw (mCons (mVar 0) (mCons (mC (.int 7)) (mCons (mC (.int 0)) (mCons (mC (.int 4)) mNil))))))
      (mRetF (mComp [4] (fun E => ((mCall 3 m__law_digits (mCons (mVar 0) (mCons (mVar 1) (mCons (mVar 2) mNil)))) E).bind lstOf) (gM 4) mYes (mBin (intOp fun i j => .bl (decide (i < j))) (mBin (intOpC (fun _ j => decide (0 < j)) fun i j => .int (i % j)) (mUn intD (mBin (intOpC divOk fun i j => .int (i / j)) (mVarT 4) (mC (.int 3)))) (mC (.int 4))) (mVarT 3)))))
def m__law_paint : List D → Option D := callM 3 5 b__law_paint
theorem fn__law_paint {f : Addr} {fd : FuncData} (F : FunD K "_law_paint" "_law_paint" (defArgs s__law_paint) (defBody s__law_paint) (defScope s__law_paint) [] [] f fd) (c__law_draw : Cal P w K mg base "_law_draw" 2 4 m__law_draw) (c__law_digits : Cal P w K mg base "_law_digits" 3 3 m__law_digits) (h_int : mg "int" = none) : FnOk P w K mg base CX0 4 f fd ["script", "at", "many"] (spD K 3 m__law_paint) :=
  fn_mk (N := N__law_paint) (m := b__law_paint) F sc__law_paint rfl (fun cdv A outer s H E hr =>
      (dss_cons (ds_set 3 sc__law_paint.nd (de_call c__law_draw (hr.mono (by decide)) (da_cons (de_var 0) (da_cons de_int (da_cons de_int (da_cons de_int da_nil))))))
      (dss_one (ds_retF (df_lc (own := [("number", 4)]) rfl sc__law_paint.nd (dit_list (DE.t (de_call c__law_digits (hr.mono (by decide)) (da_cons (de_var 0) (da_cons (de_var 1) (da_cons (de_var 2) da_nil)))))) (blkOk_by (N := N__law_paint) (sc := defScope s__law_paint) (by decide +kernel)) (by decide) (fun _ _ _ _ _ => (dg_name 4 sc__law_paint.nd)) (fun _ _ _ _ _ => dts_nil) (fun _ _ _ _ _ => (de_cmp op_lt od_lt (DE.t (de_mod (DE.t (de_int1 h_int (DE.t (de_fdiv (dt_var 4) (DE.t de_int))))) (DE.t de_int))) (dt_var 3))))))))
theorem bd__law_paint (kV doc pm : Value) (an : Option Addr) (cdv ct : Value) (us : List Value) (hl : us.length = ["script", "at", "many"].length) : bindArgs (PySem.W.fnOf "_law_paint" "_law_paint" (defArgs s__law_paint) (defBody s__law_paint) (defScope s__law_paint) .none kV doc pm an cdv ct) ⟨us, []⟩ = pure ((["script", "at", "many"] : List Str).zip us) := match us, hl with | [_, _, _], _ => rfl
theorem cal__law_paint (F : Stands K mg "_law_paint" s__law_paint) (c__law_draw : Cal P w K mg base "_law_draw" 2 4 m__law_draw) (c__law_digits : Cal P w K mg base "_law_digits" 3 3 m__law_digits) (h_int : mg "int" = none) : Cal P w K mg base "_law_paint" 4 3 m__law_paint :=
  cal_of F bd__law_paint fun F => fn__law_paint F c__law_draw c__law_digits h_int
def mF__law_paint : List D → Option (List D) := callF 3 5 b__law_paint
theorem fnF__law_paint {f : Addr} {fd : FuncData} (F : FunD K "_law_paint" "_law_paint" (defArgs s__law_paint) (defBody s__law_paint) (defScope s__law_paint) [] [] f fd) (c__law_draw : Cal P w K mg base "_law_draw" 2 4 m__law_draw) (c__law_digits : Cal P w K mg base "_law_digits" 3 3 m__law_digits) (h_int : mg "int" = none) : FnOk P w K mg base CX0 4 f fd ["script", "at", "many"] (spF K 3 mF__law_paint) :=
  fnF_mk (N := N__law_paint) (m := b__law_paint) F sc__law_paint rfl (fun cdv A outer s H E hr =>
      (dss_cons (ds_set 3 sc__law_paint.nd (de_call c__law_draw (hr.mono (by decide)) (da_cons (de_var 0) (da_cons de_int (da_cons de_int (da_cons de_int da_nil))))))
      (dss_one (ds_retF (df_lc (own := [("number", 4)]) rfl sc__law_paint.nd (dit_list (DE.t (de_call c__law_digits (hr.mono (by decide)) (da_cons (de_var 0) (da_cons (de_var 1) (da_cons (de_var 2) da_nil)))))) (blkOk_by (N := N__law_paint) (sc := defScope s__law_paint) (by decide +kernel)) (by decide) (fun _ _ _ _ _ => (dg_name 4 sc__law_paint.nd)) (fun _ _ _ _ _ => dts_nil) (fun _ _ _ _ _ => (de_cmp op_lt od_lt (DE.t (de_mod (DE.t (de_int1 h_int (DE.t (de_fdiv (dt_var 4) (DE.t de_int))))) (DE.t de_int))) (dt_var 3))))))))
theorem calF__law_paint (F : Stands K mg "_law_paint" s__law_paint) (c__law_draw : Cal P w K mg base "_law_draw" 2 4 m__law_draw) (c__law_digits : Cal P w K mg base "_law_digits" 3 3 m__law_digits) (h_int : mg "int" = none) : CalF P w K mg base "_law_paint" 4 3 mF__law_paint :=
  calF_of F bd__law_paint fun F => fnF__law_paint F c__law_draw c__law_digits h_int

abbrev s__law_painted : Stmt := topS 23
abbrev N__law_painted : List Str := ["script", "count", "arcs", "ring", "rises", "falls", "plan", "off", "inside", "j", "k", "arc", "free", "number"]
theorem sc__law_painted : FnScope N__law_painted ["script", "count", "arcs", "ring"] (defScope s__law_painted) := ⟨rfl, rfl, rfl, by decide +kernel, rfl, by decide +kernel, by decide +kernel⟩
def b__law_painted : En → Option Out :=
      (mSeq (mSetO 4 (mCallF 3 mF__law_paint (mCons (mVar 0) (mCons (mC (.int 5)) (mCons (mUn lenD (mVarT 2)) mNil)))))
      (mSeq (mSetO 5 (mCallF 3 mF__law_paint (mCons (mVar 0) (mCons (mC (.int 6)) (mCons (mUn lenD (mVarT 2)) mNil)))))
      (mSeq (mSet 6 (mCall 4 m__law_draw (mCons (mVar 0) (mCons (mC (.int 7)) (mCons (mC (.int 1)) (mCons (mC (.int 4)) mNil))))))
      (mSeq (mSet 7 (mBin addD (mC (.int 1)) (mCall 4 m__law_draw (mCons (mVar 0) (mCons (mC (.int 7)) (mCons (mC (.int 2)) (mCons (mBin (intOp fun i j => .int (i - j)) (mUn lenD (mVarT 3)) (mC (.int 1))) mNil)))))))
      (mSeq (mSetO 8 (mComp [13] (fun E => ((mCall 3 m__law_digits (mCons (mVar 0) (mCons (mC (.int 8)) (mCons (mVar 1) mNil)))) E).bind lstOf) (gM 13) mYes (mBin eqD (mBin (intOpC (fun _ j => decide (0 < j)) fun i j => .int (i % j)) (mUn intD (mBin (intOpC divOk fun i j => .int (i / j)) (mVarT 13) (mC (.int 3)))) (mC (.int 2))) (mC (.int 0)))))
      (mSeq (mSub 8 (mC (.bl false)) (mBin ixD (mBin ixD (mVarT 2) (mBin ixD (mBin ixD (mVarT 3) (mC (.int 0))) (mC (.int 0)))) (mC (.int 0))))
      (mSeq (mSub 8 (mC (.bl true)) (mBin ixD (mBin ixD (mVarT 2) (mBin ixD (mBin ixD (mVarT 3) (mC (.int 0))) (mC (.int 0)))) (mC (.int 1))))
      (mSeq (mFor (fun E => ((mC (.int 1)) E).bind fun x => ((mUn lenD (mVarT 3)) E).bind fun y => rg2 x y) (gM 9) (mSeq (mSet 11 (mBin ixD (mBin ixD (mVarT 3) (mVarT 9)) (mC (.int 0))))
      (mSeq (mSet 12 (mOrV (mBin (intOp fun i j => .bl (decide (i < j))) (mVarT 6) (mC (.int 2))) (mAndV (mBin eqD (mVarT 6) (mC (.int 2))) (mBin neD (mVarT 9) (mVarT 7)))))
      (mSeq (mIfS (mAnd (fun E => ((mBin (intOp fun i j => .bl (decide (i < j))) (mVarT 6) (mC (.int 3))) E).bind blOf) (fun E => ((mBin eqD (mBin ixD (mBin ixD (mVarT 3) (mVarT 9)) (mC (.int 1))) (mC (.int 1))) E).bind blOf)) (mSub 4 (mVar 12) (mVar 11)) mNext)
      (mIfS (mAnd (fun E => ((mBin (intOp fun i j => .bl (decide (i < j))) (mVarT 6) (mC (.int 3))) E).bind blOf) (fun E => ((mBin eqD (mBin ixD (mBin ixD (mVarT 3) (mVarT 9)) (mC (.int 1))) (mUn negD (mC (.int 1)))) E).bind blOf)) (mSub 5 (mVar 12) (mVar 11)) mNext)))))
      (mSeq (mFor (fun E => ((mUn lenD (mVarT 2)) E).bind rg1) (gM 10) (mIfS (mAnd (fun E => ((mBin eqD (mVarT 6) (mC (.int 3))) E).bind blOf) (mAnd (fun E => ((mBin neD (mVarT 10) (mBin ixD (mBin ixD (mVarT 3) (mC (.int 0))) (mC (.int 0)))) E).bind blOf) (fun E => ((mBin neD (mBin ixD (mVarT 8) (mBin ixD (mBin ixD (mVarT 2) (mVarT 10)) (mC (.int 0)))) (mBin ixD (mVarT 8) (mBin ixD (mBin ixD (mVarT 2) (mVarT 10)) (mC (.int 1))))) E).bind blOf))) (mSeq (mSub 4 (mAndV (mBin ixD (mVarT 4) (mVarT 10)) (mBin ixD (mVarT 8) (mBin ixD (mBin ixD (mVarT 2) (mVarT 10)) (mC (.int 1))))) (mVar 10))
      (mSub 5 (mAndV (mBin ixD (mVarT 5) (mVarT 10)) (mBin ixD (mVarT 8) (mBin ixD (mBin ixD (mVarT 2) (mVarT 10)) (mC (.int 0))))) (mVar 10))) mNext))
      (mFrz 4 (mFrz 5 (mRet (mTup (mCons (mVar 4) (mCons (mVar 5) mNil)))))))))))))))
def m__law_painted : List D → Option D := callM 4 14 b__law_painted
theorem fn__law_painted {f : Addr} {fd : FuncData} (F : FunD K "_law_painted" "_law_painted" (defArgs s__law_painted) (defBody s__law_painted) (defScope s__law_painted) [] [] f fd) (c__law_draw : Cal P w K mg base "_law_draw" 2 4 m__law_draw) (c__law_digits : Cal P w K mg base "_law_digits" 3 3 m__law_digits) (f__law_paint : CalF P w K mg base "_law_paint" 4 3 mF__law_paint) (h_len : mg "len" = none) (h_int : mg "int" = none) (h_range : mg "range" = none) : FnOk P w K mg base CX0 5 f fd ["script", "count", "arcs", "ring"] (spD K 4 m__law_painted) :=
  fn_mk (N := N__law_painted) (m := b__law_painted) F sc__law_painted rfl (fun cdv A outer s H E hr =>
      (dss_cons (ds_setO 4 sc__law_painted.nd (df_call f__law_paint (hr.mono (by decide)) (da_cons (de_var 0) (da_cons de_int (da_cons (de_len h_len (dt_var 2)) da_nil)))))
      (dss_cons (ds_setO 5 sc__law_painted.nd (df_call f__law_paint (hr.mono (by decide)) (da_cons (de_var 0) (da_cons de_int (da_cons (de_len h_len (dt_var 2)) da_nil)))))
      (dss_cons (ds_set 6 sc__law_painted.nd (de_call c__law_draw (hr.mono (by decide)) (da_cons (de_var 0) (da_cons de_int (da_cons de_int (da_cons de_int da_nil))))))
      (dss_cons (ds_set 7 sc__law_painted.nd (de_add (DE.t de_int) (DE.t (de_call c__law_draw (hr.mono (by decide)) (da_cons (de_var 0) (da_cons de_int (da_cons de_int (da_cons (de_sub (DE.t (de_len h_len (dt_var 3))) (DE.t de_int)) da_nil))))))))
      (dss_cons (ds_setLc 8 (own := [("number", 13)]) rfl sc__law_painted.nd (dit_list (DE.t (de_call c__law_digits (hr.mono (by decide)) (da_cons (de_var 0) (da_cons de_int (da_cons (de_var 1) da_nil)))))) (blkOk_by (N := N__law_painted) (sc := defScope s__law_painted) (by decide +kernel)) (by decide) (fun _ _ _ _ _ => (dg_name 13 sc__law_painted.nd)) (fun _ _ _ _ _ => dts_nil) (fun _ _ _ _ _ => (de_cmp (op_eqAll hr) od_eq (DE.t (de_mod (DE.t (de_int1 h_int (DE.t (de_fdiv (dt_var 13) (DE.t de_int))))) (DE.t de_int))) (DE.t de_int))) (sw_true rfl rfl rfl (by decide +kernel)))
      (dss_cons (ds_sub 8 de_bl (de_ix (DE.t (de_ix (dt_var 2) (DE.t (de_ix (DE.t (de_ix (dt_var 3) (DE.t de_int))) (DE.t de_int))))) (DE.t de_int)))
      (dss_cons (ds_sub 8 de_bl (de_ix (DE.t (de_ix (dt_var 2) (DE.t (de_ix (DE.t (de_ix (dt_var 3) (DE.t de_int))) (DE.t de_int))))) (DE.t de_int)))
      (dss_cons (ds_for PassesOwn.never rfl (di_range2 h_range (DE.t de_int) (DE.t (de_len h_len (dt_var 3)))) (dg_name 9 sc__law_painted.nd) (dss_cons (ds_set 11 sc__law_painted.nd (de_ix (DE.t (de_ix (dt_var 3) (dt_var 9))) (DE.t de_int)))
      (dss_cons (ds_set 12 sc__law_painted.nd (de_or (de_cmp op_lt od_lt (dt_var 6) (DE.t de_int)) (de_one (de_and (de_cmp (op_eqAll hr) od_eq (dt_var 6) (DE.t de_int)) (de_one (de_cmp (op_neAll hr) od_ne (dt_var 9) (dt_var 7)))))))
      (dss_cons (ds_if (DW.toB (dw_and (db_cmp op_lt od_lt (dt_var 6) (DE.t de_int)) (dw_and1 (db_cmp (op_eqAll hr) od_eq (DE.t (de_ix (DE.t (de_ix (dt_var 3) (dt_var 9))) (DE.t de_int))) (DE.t de_int))))) (dss_one (ds_sub 4 (de_var 12) (de_var 11))) dss_nil)
      (dss_one (ds_if (DW.toB (dw_and (db_cmp op_lt od_lt (dt_var 6) (DE.t de_int)) (dw_and1 (db_cmp (op_eqAll hr) od_eq (DE.t (de_ix (DE.t (de_ix (dt_var 3) (dt_var 9))) (DE.t de_int))) (DE.t (de_neg (DE.t de_int))))))) (dss_one (ds_sub 5 (de_var 12) (de_var 11))) dss_nil))))))
      (dss_cons (ds_for PassesOwn.never rfl (di_range1 h_range (DE.t (de_len h_len (dt_var 2)))) (dg_name 10 sc__law_painted.nd) (dss_one (ds_if (DW.toB (dw_and (db_cmp (op_eqAll hr) od_eq (dt_var 6) (DE.t de_int)) (dw_and (db_cmp (op_neAll hr) od_ne (dt_var 10) (DE.t (de_ix (DE.t (de_ix (dt_var 3) (DE.t de_int))) (DE.t de_int)))) (dw_and1 (db_cmp (op_neAll hr) od_ne (DE.t (de_ix (dt_var 8) (DE.t (de_ix (DE.t (de_ix (dt_var 2) (dt_var 10))) (DE.t de_int))))) (DE.t (de_ix (dt_var 8) (DE.t (de_ix (DE.t (de_ix (dt_var 2) (dt_var 10))) (DE.t de_int)))))))))) (dss_cons (ds_sub 4 (de_and (de_ix (dt_var 4) (dt_var 10)) (de_one (de_ix (dt_var 8) (DE.t (de_ix (DE.t (de_ix (dt_var 2) (dt_var 10))) (DE.t de_int)))))) (de_var 10))
      (dss_one (ds_sub 5 (de_and (de_ix (dt_var 5) (dt_var 10)) (de_one (de_ix (dt_var 8) (DE.t (de_ix (DE.t (de_ix (dt_var 2) (dt_var 10))) (DE.t de_int)))))) (de_var 10)))) dss_nil)))
      (dss_one (ds_frz 4 (ds_frz 5 (ds_ret (DE.t (de_tup (da_cons (de_var 4) (da_cons (de_var 5) da_nil))))))))))))))))))
theorem bd__law_painted (kV doc pm : Value) (an : Option Addr) (cdv ct : Value) (us : List Value) (hl : us.length = ["script", "count", "arcs", "ring"].length) : bindArgs (PySem.W.fnOf "_law_painted" "_law_painted" (defArgs s__law_painted) (defBody s__law_painted) (defScope s__law_painted) .none kV doc pm an cdv ct) ⟨us, []⟩ = pure ((["script", "count", "arcs", "ring"] : List Str).zip us) := match us, hl with | [_, _, _, _], _ => rfl
theorem cal__law_painted (F : Stands K mg "_law_painted" s__law_painted) (c__law_draw : Cal P w K mg base "_law_draw" 2 4 m__law_draw) (c__law_digits : Cal P w K mg base "_law_digits" 3 3 m__law_digits) (f__law_paint : CalF P w K mg base "_law_paint" 4 3 mF__law_paint) (h_len : mg "len" = none) (h_int : mg "int" = none) (h_range : mg "range" = none) : Cal P w K mg base "_law_painted" 5 4 m__law_painted :=
  cal_of F bd__law_painted fun F => fn__law_painted F c__law_draw c__law_digits f__law_paint h_len h_int h_range

abbrev s__law_reached : Stmt := topS 24
abbrev N__law_reached : List Str := ["count", "arcs", "paint", "asked", "around", "k", "reached", "waiting", "turn", "node", "other", "0n0"]
theorem sc__law_reached : FnScope N__law_reached ["count", "arcs", "paint", "asked"] (defScope s__law_reached) := ⟨rfl, rfl, rfl, by decide +kernel, rfl, by decide +kernel, by decide +kernel⟩
def b__law_reached : En → Option Out :=
      (mSeq (mSetLL 4 11 (fun E => ((mVarT 0) E).bind rg1))
      (mSeq (mFor (fun E => ((mUn lenD (mVarT 1)) E).bind rg1) (gM 5) (mSeq (mIfS (mAnd (fun E => ((mBin neD (mVarT 5) (mVarT 3)) E).bind blOf) (fun E => ((mBin ixD (mBin ixD (mVarT 2) (mC (.int 0))) (mVarT 5)) E).bind truD)) (mLLApp 4 (mBin ixD (mBin ixD (mVarT 1) (mVarT 5)) (mC (.int 0))) (mBin ixD (mBin ixD (mVarT 1) (mVarT 5)) (mC (.int 1)))) mNext)
      (mIfS (mAnd (fun E => ((mBin neD (mVarT 5) (mVarT 3)) E).bind blOf) (fun E => ((mBin ixD (mBin ixD (mVarT 2) (mC (.int 1))) (mVarT 5)) E).bind truD)) (mLLApp 4 (mBin ixD (mBin ixD (mVarT 1) (mVarT 5)) (mC (.int 1))) (mBin ixD (mBin ixD (mVarT 1) (mVarT 5)) (mC (.int 0)))) mNext)))
      (mSeq (mFrz2 4 (mSetO 6 (fun E => ((mList (mLst (mCons (mC (.bl false)) mNil))) E).bind fun x => ((mVarT 0) E).bind fun y => repD x y)))
      (mSeq (mSub 6 (mC (.bl true)) (mBin ixD (mBin ixD (mVarT 1) (mVarT 3)) (mC (.int 1))))
      (mSeq (mSetO 7 (mLst (mCons (mBin ixD (mBin ixD (mVarT 1) (mVarT 3)) (mC (.int 1))) mNil)))
      (mSeq (mFor (fun E => ((mVarT 0) E).bind rg1) (gM 8) (mIfS (fun E => ((mBin (intOp fun i j => .bl (decide (j < i))) (mUn lenD (mVarT 7)) (mC (.int 0))) E).bind blOf) (mSeq (mPopA 7 (gM 9))
      (mFor (fun E => ((mBin ixD (mVarT 4) (mVarT 9)) E).bind lstOf) (gM 10) (mIfS (mNot (fun E => ((mBin ixD (mVarT 6) (mVarT 10)) E).bind truD)) (mSeq (mSub 6 (mC (.bl true)) (mVar 10))
      (mApp 7 (mVar 10))) mNext))) mNext))
      (mRetO 6)))))))
def m__law_reached : List D → Option D := callM 4 12 b__law_reached
theorem fn__law_reached {f : Addr} {fd : FuncData} (F : FunD K "_law_reached" "_law_reached" (defArgs s__law_reached) (defBody s__law_reached) (defScope s__law_reached) [] [] f fd) (h_range : mg "range" = none) (h_len : mg "len" = none) : FnOk P w K mg base CX0 1 f fd ["count", "arcs", "paint", "asked"] (spD K 4 m__law_reached) :=
  fn_mk (N := N__law_reached) (m := b__law_reached) F sc__law_reached rfl (fun cdv A outer s H E hr =>
      (dss_cons (ds_setLL 4 11 9 (own := [("node", 9)]) rfl sc__law_reached.nd (DI.t (di_range1 h_range (dt_var 0))) (blkOk_by (N := N__law_reached) (sc := defScope s__law_reached) (by decide +kernel)) (by decide) (fun _ _ _ _ _ => (dg_name 9 sc__law_reached.nd)) (sw_true rfl rfl rfl (by decide +kernel)))
      (dss_cons (ds_for PassesOwn.never rfl (di_range1 h_range (DE.t (de_len h_len (dt_var 1)))) (dg_name 5 sc__law_reached.nd) (dss_cons (ds_if (DW.toB (dw_and (db_cmp (op_neAll hr) od_ne (dt_var 5) (dt_var 3)) (dw_and1 (db_tru (DE.t (de_ix (DE.t (de_ix (dt_var 2) (DE.t de_int))) (dt_var 5))))))) (dss_one (ds_llapp 4 (de_ix (DE.t (de_ix (dt_var 1) (dt_var 5))) (DE.t de_int)) (de_ix (DE.t (de_ix (dt_var 1) (dt_var 5))) (DE.t de_int)))) dss_nil)
      (dss_one (ds_if (DW.toB (dw_and (db_cmp (op_neAll hr) od_ne (dt_var 5) (dt_var 3)) (dw_and1 (db_tru (DE.t (de_ix (DE.t (de_ix (dt_var 2) (DE.t de_int))) (dt_var 5))))))) (dss_one (ds_llapp 4 (de_ix (DE.t (de_ix (dt_var 1) (dt_var 5))) (DE.t de_int)) (de_ix (DE.t (de_ix (dt_var 1) (dt_var 5))) (DE.t de_int)))) dss_nil))))
      (dss_cons (ds_frz2 4 (ds_setO 6 sc__law_reached.nd (df_rep (DF.t (df_lst (da_cons de_bl da_nil))) (dt_var 0))))
      (dss_cons (ds_sub 6 de_bl (de_ix (DE.t (de_ix (dt_var 1) (dt_var 3))) (DE.t de_int)))
      (dss_cons (ds_setO 7 sc__law_reached.nd (df_lst (da_cons (de_ix (DE.t (de_ix (dt_var 1) (dt_var 3))) (DE.t de_int)) da_nil)))
      (dss_cons (ds_for PassesOwn.never rfl (di_range1 h_range (dt_var 0)) (dg_name 8 sc__law_reached.nd) (dss_one (ds_if (db_cmp op_gt od_gt (DE.t (de_len h_len (dt_var 7))) (DE.t de_int)) (dss_cons (ds_popA 7 (dg_name 9 sc__law_reached.nd))
      (dss_one (ds_for PassesOwn.never rfl (di_list (de_ix (dt_var 4) (dt_var 9))) (dg_name 10 sc__law_reached.nd) (dss_one (ds_if (db_not (db_tru (DE.t (de_ix (dt_var 6) (dt_var 10))))) (dss_cons (ds_sub 6 de_bl (de_var 10))
      (dss_one (ds_app 7 (de_var 10)))) dss_nil))))) dss_nil)))
      (dss_one (ds_retO 6)))))))))
theorem bd__law_reached (kV doc pm : Value) (an : Option Addr) (cdv ct : Value) (us : List Value) (hl : us.length = ["count", "arcs", "paint", "asked"].length) : bindArgs (PySem.W.fnOf "_law_reached" "_law_reached" (defArgs s__law_reached) (defBody s__law_reached) (defScope s__law_reached) .none kV doc pm an cdv ct) ⟨us, []⟩ = pure ((["count", "arcs", "paint", "asked"] : List Str).zip us) := match us, hl with | [_, _, _, _], _ => rfl
theorem cal__law_reached (F : Stands K mg "_law_reached" s__law_reached) (h_range : mg "range" = none) (h_len : mg "len" = none) : Cal P w K mg base "_law_reached" 1 4 m__law_reached :=
  cal_of F bd__law_reached fun F => fn__law_reached F h_range h_len

abbrev s__law_ring_due : Stmt := topS 25
abbrev N__law_ring_due : List Str := ["arcs", "paint", "asked", "pairs", "at", "ends", "pair", "k", "arc"]
theorem sc__law_ring_due : FnScope N__law_ring_due ["arcs", "paint", "asked", "pairs"] (defScope s__law_ring_due) := ⟨rfl, rfl, rfl, by decide +kernel, rfl, by decide +kernel, by decide +kernel⟩
def b__law_ring_due : En → Option Out :=
      (mSeq (mIfS (mOr (fun E => ((mBin (intOp fun i j => .bl (decide (i < j))) (mUn lenD (mVarT 3)) (mC (.int 2))) E).bind blOf) (fun E => ((mBin neD (mBin ixD (mVarT 3) (mC (.int 0))) (mTup (mCons (mVar 2) (mCons (mC (.int 1)) mNil)))) E).bind blOf)) (mRet (mC (.bl false))) mNext)
      (mSeq (mSet 4 (mBin ixD (mBin ixD (mVarT 0) (mVarT 2)) (mC (.int 1))))
      (mSeq (mSetO 5 (mLst (mCons (mVar 4) mNil)))
      (mSeq (mFor (fun E => ((mList (fun E => (((mVarT 3) E).bind lstOf).bind fun ds => ((fun E => ((mC (.int 1)) E).bind inOf) E).bind fun l => ((fun _ => some none) E).map fun h => cutD ds l h)) E).bind lstOf) (gM 6) (mSeq (mIfS (mOr (fun E => ((mBin (intOp fun i j => .bl (decide (i < j))) (mBin ixD (mVarT 6) (mC (.int 0))) (mC (.int 0))) E).bind blOf) (mOr (fun E => ((mBin (intOp fun i j => .bl (decide (j ≤ i))) (mBin ixD (mVarT 6) (mC (.int 0))) (mUn lenD (mVarT 0))) E).bind blOf) (fun E => ((mBin eqD (mBin ixD (mVarT 6) (mC (.int 0))) (mVarT 2)) E).bind blOf))) (mRet (mC (.bl false))) mNext)
      (mSeq (mSet 8 (mBin ixD (mVarT 0) (mBin ixD (mVarT 6) (mC (.int 0)))))
      (mSeq (mIfS (mAnd (fun E => ((mBin eqD (mBin ixD (mVarT 6) (mC (.int 1))) (mC (.int 1))) E).bind blOf) (mAnd (fun E => ((mBin ixD (mBin ixD (mVarT 1) (mC (.int 0))) (mBin ixD (mVarT 6) (mC (.int 0)))) E).bind truD) (fun E => ((mBin eqD (mBin ixD (mVarT 8) (mC (.int 0))) (mVarT 4)) E).bind blOf))) (mSet 4 (mBin ixD (mVarT 8) (mC (.int 1)))) (mIfS (mAnd (fun E => ((mBin eqD (mBin ixD (mVarT 6) (mC (.int 1))) (mUn negD (mC (.int 1)))) E).bind blOf) (mAnd (fun E => ((mBin ixD (mBin ixD (mVarT 1) (mC (.int 1))) (mBin ixD (mVarT 6) (mC (.int 0)))) E).bind truD) (fun E => ((mBin eqD (mBin ixD (mVarT 8) (mC (.int 1))) (mVarT 4)) E).bind blOf))) (mSet 4 (mBin ixD (mVarT 8) (mC (.int 0)))) (mRet (mC (.bl false)))))
      (mApp 5 (mVar 4))))))
      (mSeq (mSetO 5 (fun E => (((mVarT 5) E).bind intsOf).map fun ns => (sortI ns).map .int))
      (mSeq (mFor (fun E => ((mC (.int 1)) E).bind fun x => ((mUn lenD (mVarT 5)) E).bind fun y => rg2 x y) (gM 7) (mIfS (fun E => ((mBin eqD (mBin ixD (mVarT 5) (mBin (intOp fun i j => .int (i - j)) (mVarT 7) (mC (.int 1)))) (mBin ixD (mVarT 5) (mVarT 7))) E).bind blOf) (mRet (mC (.bl false))) mNext))
      (mRet (mBin eqD (mVarT 4) (mBin ixD (mBin ixD (mVarT 0) (mVarT 2)) (mC (.int 0)))))))))))
def m__law_ring_due : List D → Option D := callM 4 9 b__law_ring_due
theorem fn__law_ring_due {f : Addr} {fd : FuncData} (F : FunD K "_law_ring_due" "_law_ring_due" (defArgs s__law_ring_due) (defBody s__law_ring_due) (defScope s__law_ring_due) [] [] f fd) (h_len : mg "len" = none) (h_sorted : mg "sorted" = none) (h_range : mg "range" = none) : FnOk P w K mg base CX0 1 f fd ["arcs", "paint", "asked", "pairs"] (spD K 4 m__law_ring_due) :=
  fn_mk (N := N__law_ring_due) (m := b__law_ring_due) F sc__law_ring_due rfl (fun cdv A outer s H E hr =>
      (dss_cons (ds_if (DW.toB (dw_or (db_cmp op_lt od_lt (DE.t (de_len h_len (dt_var 3))) (DE.t de_int)) (dw_or1 (db_cmp (op_neAll hr) od_ne (DE.t (de_ix (dt_var 3) (DE.t de_int))) (DE.t (de_tup (da_cons (de_var 2) (da_cons de_int da_nil)))))))) (dss_one (ds_ret (DE.t de_bl))) dss_nil)
      (dss_cons (ds_set 4 sc__law_ring_due.nd (de_ix (DE.t (de_ix (dt_var 0) (dt_var 2))) (DE.t de_int)))
      (dss_cons (ds_setO 5 sc__law_ring_due.nd (df_lst (da_cons (de_var 4) da_nil)))
      (dss_cons (ds_for PassesOwn.never rfl (di_list (DF.toE (df_slice (dt_var 3) (do_some (DE.t de_int)) do_none))) (dg_name 6 sc__law_ring_due.nd) (dss_cons (ds_if (DW.toB (dw_or (db_cmp op_lt od_lt (DE.t (de_ix (dt_var 6) (DE.t de_int))) (DE.t de_int)) (dw_or (db_cmp op_ge od_ge (DE.t (de_ix (dt_var 6) (DE.t de_int))) (DE.t (de_len h_len (dt_var 0)))) (dw_or1 (db_cmp (op_eqAll hr) od_eq (DE.t (de_ix (dt_var 6) (DE.t de_int))) (dt_var 2)))))) (dss_one (ds_ret (DE.t de_bl))) dss_nil)
      (dss_cons (ds_set 8 sc__law_ring_due.nd (de_ix (dt_var 0) (DE.t (de_ix (dt_var 6) (DE.t de_int)))))
      (dss_cons (ds_if (DW.toB (dw_and (db_cmp (op_eqAll hr) od_eq (DE.t (de_ix (dt_var 6) (DE.t de_int))) (DE.t de_int)) (dw_and (db_tru (DE.t (de_ix (DE.t (de_ix (dt_var 1) (DE.t de_int))) (DE.t (de_ix (dt_var 6) (DE.t de_int)))))) (dw_and1 (db_cmp (op_eqAll hr) od_eq (DE.t (de_ix (dt_var 8) (DE.t de_int))) (dt_var 4)))))) (dss_one (ds_set 4 sc__law_ring_due.nd (de_ix (dt_var 8) (DE.t de_int)))) (dss_one (ds_if (DW.toB (dw_and (db_cmp (op_eqAll hr) od_eq (DE.t (de_ix (dt_var 6) (DE.t de_int))) (DE.t (de_neg (DE.t de_int)))) (dw_and (db_tru (DE.t (de_ix (DE.t (de_ix (dt_var 1) (DE.t de_int))) (DE.t (de_ix (dt_var 6) (DE.t de_int)))))) (dw_and1 (db_cmp (op_eqAll hr) od_eq (DE.t (de_ix (dt_var 8) (DE.t de_int))) (dt_var 4)))))) (dss_one (ds_set 4 sc__law_ring_due.nd (de_ix (dt_var 8) (DE.t de_int)))) (dss_one (ds_ret (DE.t de_bl))))))
      (dss_one (ds_app 5 (de_var 4)))))))
      (dss_cons (ds_setO 5 sc__law_ring_due.nd (df_sorted h_sorted (dt_var 5)))
      (dss_cons (ds_for PassesOwn.never rfl (di_range2 h_range (DE.t de_int) (DE.t (de_len h_len (dt_var 5)))) (dg_name 7 sc__law_ring_due.nd) (dss_one (ds_if (db_cmp (op_eqAll hr) od_eq (DE.t (de_ix (dt_var 5) (DE.t (de_sub (dt_var 7) (DE.t de_int))))) (DE.t (de_ix (dt_var 5) (dt_var 7)))) (dss_one (ds_ret (DE.t de_bl))) dss_nil)))
      (dss_one (ds_ret (DE.t (de_cmp (op_eqAll hr) od_eq (dt_var 4) (DE.t (de_ix (DE.t (de_ix (dt_var 0) (dt_var 2))) (DE.t de_int))))))))))))))
theorem bd__law_ring_due (kV doc pm : Value) (an : Option Addr) (cdv ct : Value) (us : List Value) (hl : us.length = ["arcs", "paint", "asked", "pairs"].length) : bindArgs (PySem.W.fnOf "_law_ring_due" "_law_ring_due" (defArgs s__law_ring_due) (defBody s__law_ring_due) (defScope s__law_ring_due) .none kV doc pm an cdv ct) ⟨us, []⟩ = pure ((["arcs", "paint", "asked", "pairs"] : List Str).zip us) := match us, hl with | [_, _, _, _], _ => rfl
theorem cal__law_ring_due (F : Stands K mg "_law_ring_due" s__law_ring_due) (h_len : mg "len" = none) (h_sorted : mg "sorted" = none) (h_range : mg "range" = none) : Cal P w K mg base "_law_ring_due" 1 4 m__law_ring_due :=
  cal_of F bd__law_ring_due fun F => fn__law_ring_due F h_len h_sorted h_range

abbrev s__law_cut_due : Stmt := topS 26
abbrev N__law_cut_due : List Str := ["count", "arcs", "paint", "asked", "nodes", "inside", "k"]
theorem sc__law_cut_due : FnScope N__law_cut_due ["count", "arcs", "paint", "asked", "nodes"] (defScope s__law_cut_due) := ⟨rfl, rfl, rfl, by decide +kernel, rfl, by decide +kernel, by decide +kernel⟩
def b__law_cut_due : En → Option Out :=
      (mSeq (mSetO 5 (fun E => ((mList (mLst (mCons (mC (.bl false)) mNil))) E).bind fun x => ((mVarT 0) E).bind fun y => repD x y))
      (mSeq (mFor (fun E => ((mUn lenD (mVarT 4)) E).bind rg1) (gM 6) (mSeq (mIfS (mOr (fun E => ((mBin (intOp fun i j => .bl (decide (i < j))) (mBin ixD (mVarT 4) (mVarT 6)) (mC (.int 0))) E).bind blOf) (mOr (fun E => ((mBin (intOp fun i j => .bl (decide (j ≤ i))) (mBin ixD (mVarT 4) (mVarT 6)) (mVarT 0)) E).bind blOf) (mAnd (fun E => ((mBin (intOp fun i j => .bl (decide (j < i))) (mVarT 6) (mC (.int 0))) E).bind blOf) (fun E => ((mBin (intOp fun i j => .bl (decide (j ≤ i))) (mBin ixD (mVarT 4) (mBin (intOp fun i j => .int (i - j)) (mVarT 6) (mC (.int 1)))) (mBin ixD (mVarT 4) (mVarT 6))) E).bind blOf)))) (mRet (mC (.bl false))) mNext)
      (mSub 5 (mC (.bl true)) (mBin ixD (mVarT 4) (mVarT 6)))))
      (mSeq (mIfS (mOr (fun E => ((mBin ixD (mVarT 5) (mBin ixD (mBin ixD (mVarT 1) (mVarT 3)) (mC (.int 0)))) E).bind truD) (mNot (fun E => ((mBin ixD (mVarT 5) (mBin ixD (mBin ixD (mVarT 1) (mVarT 3)) (mC (.int 1)))) E).bind truD))) (mRet (mC (.bl false))) mNext)
      (mSeq (mFor (fun E => ((mUn lenD (mVarT 1)) E).bind rg1) (gM 6) (mSeq (mIfS (mAnd (fun E => ((mBin neD (mVarT 6) (mVarT 3)) E).bind blOf) (mAnd (fun E => ((mBin ixD (mBin ixD (mVarT 2) (mC (.int 0))) (mVarT 6)) E).bind truD) (mAnd (fun E => ((mBin ixD (mVarT 5) (mBin ixD (mBin ixD (mVarT 1) (mVarT 6)) (mC (.int 0)))) E).bind truD) (mNot (fun E => ((mBin ixD (mVarT 5) (mBin ixD (mBin ixD (mVarT 1) (mVarT 6)) (mC (.int 1)))) E).bind truD))))) (mRet (mC (.bl false))) mNext)
      (mIfS (mAnd (fun E => ((mBin neD (mVarT 6) (mVarT 3)) E).bind blOf) (mAnd (fun E => ((mBin ixD (mBin ixD (mVarT 2) (mC (.int 1))) (mVarT 6)) E).bind truD) (mAnd (fun E => ((mBin ixD (mVarT 5) (mBin ixD (mBin ixD (mVarT 1) (mVarT 6)) (mC (.int 1)))) E).bind truD) (mNot (fun E => ((mBin ixD (mVarT 5) (mBin ixD (mBin ixD (mVarT 1) (mVarT 6)) (mC (.int 0)))) E).bind truD))))) (mRet (mC (.bl false))) mNext)))
      (mRet (mC (.bl true)))))))
def m__law_cut_due : List D → Option D := callM 5 7 b__law_cut_due
theorem fn__law_cut_due {f : Addr} {fd : FuncData} (F : FunD K "_law_cut_due" "_law_cut_due" (defArgs s__law_cut_due) (defBody s__law_cut_due) (defScope s__law_cut_due) [] [] f fd) (h_len : mg "len" = none) (h_range : mg "range" = none) : FnOk P w K mg base CX0 1 f fd ["count", "arcs", "paint", "asked", "nodes"] (spD K 5 m__law_cut_due) :=
  fn_mk (N := N__law_cut_due) (m := b__law_cut_due) F sc__law_cut_due rfl (fun cdv A outer s H E hr =>
      (dss_cons (ds_setO 5 sc__law_cut_due.nd (df_rep (DF.t (df_lst (da_cons de_bl da_nil))) (dt_var 0)))
      (dss_cons (ds_for PassesOwn.never rfl (di_range1 h_range (DE.t (de_len h_len (dt_var 4)))) (dg_name 6 sc__law_cut_due.nd) (dss_cons (ds_if (DW.toB (dw_or (db_cmp op_lt od_lt (DE.t (de_ix (dt_var 4) (dt_var 6))) (DE.t de_int)) (dw_or (db_cmp op_ge od_ge (DE.t (de_ix (dt_var 4) (dt_var 6))) (dt_var 0)) (dw_or1 (DW.toB (dw_and (db_cmp op_gt od_gt (dt_var 6) (DE.t de_int)) (dw_and1 (db_cmp op_ge od_ge (DE.t (de_ix (dt_var 4) (DE.t (de_sub (dt_var 6) (DE.t de_int))))) (DE.t (de_ix (dt_var 4) (dt_var 6))))))))))) (dss_one (ds_ret (DE.t de_bl))) dss_nil)
      (dss_one (ds_sub 5 de_bl (de_ix (dt_var 4) (dt_var 6))))))
      (dss_cons (ds_if (DW.toB (dw_or (db_tru (DE.t (de_ix (dt_var 5) (DE.t (de_ix (DE.t (de_ix (dt_var 1) (dt_var 3))) (DE.t de_int)))))) (dw_or1 (db_not (db_tru (DE.t (de_ix (dt_var 5) (DE.t (de_ix (DE.t (de_ix (dt_var 1) (dt_var 3))) (DE.t de_int)))))))))) (dss_one (ds_ret (DE.t de_bl))) dss_nil)
      (dss_cons (ds_for PassesOwn.never rfl (di_range1 h_range (DE.t (de_len h_len (dt_var 1)))) (dg_name 6 sc__law_cut_due.nd) (dss_cons (ds_if (DW.toB (dw_and (db_cmp (op_neAll hr) od_ne (dt_var 6) (dt_var 3)) (dw_and (db_tru (DE.t (de_ix (DE.t (de_ix (dt_var 2) (DE.t de_int))) (dt_var 6)))) (dw_and (db_tru (DE.t (de_ix (dt_var 5) (DE.t (de_ix (DE.t (de_ix (dt_var 1) (dt_var 6))) (DE.t de_int)))))) (dw_and1 (db_not (db_tru (DE.t (de_ix (dt_var 5) (DE.t (de_ix (DE.t (de_ix (dt_var 1) (dt_var 6))) (DE.t de_int)))))))))))) (dss_one (ds_ret (DE.t de_bl))) dss_nil)
      (dss_one (ds_if (DW.toB (dw_and (db_cmp (op_neAll hr) od_ne (dt_var 6) (dt_var 3)) (dw_and (db_tru (DE.t (de_ix (DE.t (de_ix (dt_var 2) (DE.t de_int))) (dt_var 6)))) (dw_and (db_tru (DE.t (de_ix (dt_var 5) (DE.t (de_ix (DE.t (de_ix (dt_var 1) (dt_var 6))) (DE.t de_int)))))) (dw_and1 (db_not (db_tru (DE.t (de_ix (dt_var 5) (DE.t (de_ix (DE.t (de_ix (dt_var 1) (dt_var 6))) (DE.t de_int)))))))))))) (dss_one (ds_ret (DE.t de_bl))) dss_nil))))
      (dss_one (ds_ret (DE.t de_bl))))))))
theorem bd__law_cut_due (kV doc pm : Value) (an : Option Addr) (cdv ct : Value) (us : List Value) (hl : us.length = ["count", "arcs", "paint", "asked", "nodes"].length) : bindArgs (PySem.W.fnOf "_law_cut_due" "_law_cut_due" (defArgs s__law_cut_due) (defBody s__law_cut_due) (defScope s__law_cut_due) .none kV doc pm an cdv ct) ⟨us, []⟩ = pure ((["count", "arcs", "paint", "asked", "nodes"] : List Str).zip us) := match us, hl with | [_, _, _, _, _], _ => rfl
theorem cal__law_cut_due (F : Stands K mg "_law_cut_due" s__law_cut_due) (h_len : mg "len" = none) (h_range : mg "range" = none) : Cal P w K mg base "_law_cut_due" 1 5 m__law_cut_due :=
  cal_of F bd__law_cut_due fun F => fn__law_cut_due F h_len h_range

abbrev s__law_is_number : Stmt := topS 27
abbrev N__law_is_number : List Str := ["value"]
theorem sc__law_is_number : FnScope N__law_is_number ["value"] (defScope s__law_is_number) := ⟨rfl, rfl, rfl, by decide +kernel, rfl, by decide +kernel, by decide +kernel⟩
def b__law_is_number : En → Option Out :=
      (mRet (mAndV (mUn (isiD "int") (mVarT 0)) (mUn (fun d => (truD d).map fun k => .bl (!k)) (mUn (isiD "bool") (mVarT 0)))))
def m__law_is_number : List D → Option D := callM 1 1 b__law_is_number
theorem fn__law_is_number {f : Addr} {fd : FuncData} (F : FunD K "_law_is_number" "_law_is_number" (defArgs s__law_is_number) (defBody s__law_is_number) (defScope s__law_is_number) [] [] f fd) (h_isinstance : mg "isinstance" = none) (h_int : mg "int" = none) (h_bool : mg "bool" = none) : FnOk P w K mg base CX0 1 f fd ["value"] (spD K 1 m__law_is_number) :=
  fn_mk (N := N__law_is_number) (m := b__law_is_number) F sc__law_is_number rfl (fun cdv A outer s H E hr =>
      (dss_one (ds_ret (DE.t (de_and (de_isi (T' := "int") h_isinstance h_int boot_int (dt_var 0)) (de_one (de_not (DE.t (de_isi (T' := "bool") h_isinstance h_bool (by decide +kernel) (dt_var 0))))))))))
theorem bd__law_is_number (kV doc pm : Value) (an : Option Addr) (cdv ct : Value) (us : List Value) (hl : us.length = ["value"].length) : bindArgs (PySem.W.fnOf "_law_is_number" "_law_is_number" (defArgs s__law_is_number) (defBody s__law_is_number) (defScope s__law_is_number) .none kV doc pm an cdv ct) ⟨us, []⟩ = pure ((["value"] : List Str).zip us) := match us, hl with | [_], _ => rfl
theorem cal__law_is_number (F : Stands K mg "_law_is_number" s__law_is_number) (h_isinstance : mg "isinstance" = none) (h_int : mg "int" = none) (h_bool : mg "bool" = none) : Cal P w K mg base "_law_is_number" 1 1 m__law_is_number :=
  cal_of F bd__law_is_number fun F => fn__law_is_number F h_isinstance h_int h_bool

abbrev s__law_same : Stmt := topS 28
abbrev N__law_same : List Str := ["told", "due"]
theorem sc__law_same : FnScope N__law_same ["told", "due"] (defScope s__law_same) := ⟨rfl, rfl, rfl, by decide +kernel, rfl, by decide +kernel, by decide +kernel⟩
def b__law_same : En → Option Out :=
      (mRet (mAndV (mUn (isiD "bool") (mVarT 0)) (mBin eqD (mVarT 0) (mVarT 1))))
def m__law_same : List D → Option D := callM 2 2 b__law_same
theorem fn__law_same {f : Addr} {fd : FuncData} (F : FunD K "_law_same" "_law_same" (defArgs s__law_same) (defBody s__law_same) (defScope s__law_same) [] [] f fd) (h_isinstance : mg "isinstance" = none) (h_bool : mg "bool" = none) : FnOk P w K mg base CX0 1 f fd ["told", "due"] (spD K 2 m__law_same) :=
  fn_mk (N := N__law_same) (m := b__law_same) F sc__law_same rfl (fun cdv A outer s H E hr =>
      (dss_one (ds_ret (DE.t (de_and (de_isi (T' := "bool") h_isinstance h_bool (by decide +kernel) (dt_var 0)) (de_one (de_cmp (op_eqAll hr) od_eq (dt_var 0) (dt_var 1))))))))
theorem bd__law_same (kV doc pm : Value) (an : Option Addr) (cdv ct : Value) (us : List Value) (hl : us.length = ["told", "due"].length) : bindArgs (PySem.W.fnOf "_law_same" "_law_same" (defArgs s__law_same) (defBody s__law_same) (defScope s__law_same) .none kV doc pm an cdv ct) ⟨us, []⟩ = pure ((["told", "due"] : List Str).zip us) := match us, hl with | [_, _], _ => rfl
theorem cal__law_same (F : Stands K mg "_law_same" s__law_same) (h_isinstance : mg "isinstance" = none) (h_bool : mg "bool" = none) : Cal P w K mg base "_law_same" 1 2 m__law_same :=
  cal_of F bd__law_same fun F => fn__law_same F h_isinstance h_bool

abbrev s__law_told_right : Stmt := topS 29
abbrev N__law_told_right : List Str := ["count", "arcs", "paint", "asked", "due", "told", "node", "pair"]
theorem sc__law_told_right : FnScope N__law_told_right ["count", "arcs", "paint", "asked", "due", "told"] (defScope s__law_told_right) := ⟨rfl, rfl, rfl, by decide +kernel, rfl, by decide +kernel, by decide +kernel⟩
def b__law_told_right : En → Option Out :=
      (mSeq (mIfS (mOr (mNot (fun E => ((mUn (isiD "tuple") (mVarT 5)) E).bind truD)) (mOr (fun E => ((mBin neD (mUn lenD (mVarT 5)) (mC (.int 2))) E).bind blOf) (mNot (fun E => ((mUn (isiD "str") (mBin ixD (mVarT 5) (mC (.int 0)))) E).bind truD)))) (mRet (mC (.bl false))) mNext)
      (mSeq (mIfS (mOr (fun E => ((mBin neD (mBin ixD (mVarT 5) (mC (.int 0))) (mVarT 4)) E).bind blOf) (mNot (fun E => ((mUn (isiD "list") (mBin ixD (mVarT 5) (mC (.int 1)))) E).bind truD))) (mRet (mC (.bl false))) mNext)
      (mSeq (mIfS (fun E => ((mBin eqD (mVarT 4) (mC (.str "ring"))) E).bind blOf) (mSeq (mFor (fun E => ((mBin ixD (mVarT 5) (mC (.int 1))) E).bind lstOf) (gM 7) (mSeq (mIfS (mOr (mNot (fun E => ((mUn (isiD "tuple") (mVarT 7)) E).bind truD)) (fun E => ((mBin neD (mUn lenD (mVarT 7)) (mC (.int 2))) E).bind blOf)) (mRet (mC (.bl false))) mNext)
      (mIfS (mOr (mNot (fun E => ((mCall 1 m__law_is_number (mCons (mBin ixD (mVarT 7) (mC (.int 0))) mNil)) E).bind truD)) (mNot (fun E => ((mCall 1 m__law_is_number (mCons (mBin ixD (mVarT 7) (mC (.int 1))) mNil)) E).bind truD))) (mRet (mC (.bl false))) mNext)))
      (mRet (mCall 4 m__law_ring_due (mCons (mVar 1) (mCons (mVar 2) (mCons (mVar 3) (mCons (mBin ixD (mVarT 5) (mC (.int 1))) mNil))))))) mNext)
      (mSeq (mFor (fun E => ((mBin ixD (mVarT 5) (mC (.int 1))) E).bind lstOf) (gM 6) (mIfS (mNot (fun E => ((mCall 1 m__law_is_number (mCons (mVar 6) mNil)) E).bind truD)) (mRet (mC (.bl false))) mNext))
      (mRet (mCall 5 m__law_cut_due (mCons (mVar 0) (mCons (mVar 1) (mCons (mVar 2) (mCons (mVar 3) (mCons (mBin ixD (mVarT 5) (mC (.int 1))) mNil)))))))))))
def m__law_told_right : List D → Option D := callM 6 8 b__law_told_right
theorem fn__law_told_right {f : Addr} {fd : FuncData} (F : FunD K "_law_told_right" "_law_told_right" (defArgs s__law_told_right) (defBody s__law_told_right) (defScope s__law_told_right) [] [] f fd) (c__law_is_number : Cal P w K mg base "_law_is_number" 1 1 m__law_is_number) (c__law_ring_due : Cal P w K mg base "_law_ring_due" 1 4 m__law_ring_due) (c__law_cut_due : Cal P w K mg base "_law_cut_due" 1 5 m__law_cut_due) (h_isinstance : mg "isinstance" = none) (h_tuple : mg "tuple" = none) (h_len : mg "len" = none) (h_str : mg "str" = none) (h_list : mg "list" = none) : FnOk P w K mg base CX0 2 f fd ["count", "arcs", "paint", "asked", "due", "told"] (spD K 6 m__law_told_right) :=
  fn_mk (N := N__law_told_right) (m := b__law_told_right) F sc__law_told_right rfl (fun cdv A outer s H E hr =>
      (dss_cons (ds_if (DW.toB (dw_or (db_not (db_tru (DE.t (de_isi (T' := "tuple") h_isinstance h_tuple (by decide +kernel) (dt_var 5))))) (dw_or (db_cmp (op_neAll hr) od_ne (DE.t (de_len h_len (dt_var 5))) (DE.t de_int)) (dw_or1 (db_not (db_tru (DE.t (de_isi (T' := "str") h_isinstance h_str (by decide +kernel) (DE.t (de_ix (dt_var 5) (DE.t de_int))))))))))) (dss_one (ds_ret (DE.t de_bl))) dss_nil)
      (dss_cons (ds_if (DW.toB (dw_or (db_cmp (op_neAll hr) od_ne (DE.t (de_ix (dt_var 5) (DE.t de_int))) (dt_var 4)) (dw_or1 (db_not (db_tru (DE.t (de_isi (T' := "list") h_isinstance h_list (by decide +kernel) (DE.t (de_ix (dt_var 5) (DE.t de_int)))))))))) (dss_one (ds_ret (DE.t de_bl))) dss_nil)
      (dss_cons (ds_if (db_cmp (op_eqAll hr) od_eq (dt_var 4) (DE.t de_str)) (dss_cons (ds_for PassesOwn.never rfl (di_list (de_ix (dt_var 5) (DE.t de_int))) (dg_name 7 sc__law_told_right.nd) (dss_cons (ds_if (DW.toB (dw_or (db_not (db_tru (DE.t (de_isi (T' := "tuple") h_isinstance h_tuple (by decide +kernel) (dt_var 7))))) (dw_or1 (db_cmp (op_neAll hr) od_ne (DE.t (de_len h_len (dt_var 7))) (DE.t de_int))))) (dss_one (ds_ret (DE.t de_bl))) dss_nil)
      (dss_one (ds_if (DW.toB (dw_or (db_not (db_tru (DE.t (de_call c__law_is_number (hr.mono (by decide)) (da_cons (de_ix (dt_var 7) (DE.t de_int)) da_nil))))) (dw_or1 (db_not (db_tru (DE.t (de_call c__law_is_number (hr.mono (by decide)) (da_cons (de_ix (dt_var 7) (DE.t de_int)) da_nil)))))))) (dss_one (ds_ret (DE.t de_bl))) dss_nil))))
      (dss_one (ds_ret (DE.t (de_call c__law_ring_due (hr.mono (by decide)) (da_cons (de_var 1) (da_cons (de_var 2) (da_cons (de_var 3) (da_cons (de_ix (dt_var 5) (DE.t de_int)) da_nil))))))))) dss_nil)
      (dss_cons (ds_for PassesOwn.never rfl (di_list (de_ix (dt_var 5) (DE.t de_int))) (dg_name 6 sc__law_told_right.nd) (dss_one (ds_if (db_not (db_tru (DE.t (de_call c__law_is_number (hr.mono (by decide)) (da_cons (de_var 6) da_nil))))) (dss_one (ds_ret (DE.t de_bl))) dss_nil)))
      (dss_one (ds_ret (DE.t (de_call c__law_cut_due (hr.mono (by decide)) (da_cons (de_var 0) (da_cons (de_var 1) (da_cons (de_var 2) (da_cons (de_var 3) (da_cons (de_ix (dt_var 5) (DE.t de_int)) da_nil))))))))))))))
theorem bd__law_told_right (kV doc pm : Value) (an : Option Addr) (cdv ct : Value) (us : List Value) (hl : us.length = ["count", "arcs", "paint", "asked", "due", "told"].length) : bindArgs (PySem.W.fnOf "_law_told_right" "_law_told_right" (defArgs s__law_told_right) (defBody s__law_told_right) (defScope s__law_told_right) .none kV doc pm an cdv ct) ⟨us, []⟩ = pure ((["count", "arcs", "paint", "asked", "due", "told"] : List Str).zip us) := match us, hl with | [_, _, _, _, _, _], _ => rfl
theorem cal__law_told_right (F : Stands K mg "_law_told_right" s__law_told_right) (c__law_is_number : Cal P w K mg base "_law_is_number" 1 1 m__law_is_number) (c__law_ring_due : Cal P w K mg base "_law_ring_due" 1 4 m__law_ring_due) (c__law_cut_due : Cal P w K mg base "_law_cut_due" 1 5 m__law_cut_due) (h_isinstance : mg "isinstance" = none) (h_tuple : mg "tuple" = none) (h_len : mg "len" = none) (h_str : mg "str" = none) (h_list : mg "list" = none) : Cal P w K mg base "_law_told_right" 2 6 m__law_told_right :=
  cal_of F bd__law_told_right fun F => fn__law_told_right F c__law_is_number c__law_ring_due c__law_cut_due h_isinstance h_tuple h_len h_str h_list

abbrev s__law_asked_right : Stmt := topS 30
abbrev N__law_asked_right : List Str := ["net", "count", "arcs", "paint", "asked", "reached", "nodes", "due", "rises", "falls", "told", "kept", "node", "0n0"]
theorem sc__law_asked_right : FnScope N__law_asked_right ["net", "count", "arcs", "paint", "asked"] (defScope s__law_asked_right) := ⟨rfl, rfl, rfl, by decide +kernel, rfl, by decide +kernel, by decide +kernel⟩
def b__law_asked_right : En → Option Out :=
      (mSeq (mSet 5 (mCall 4 m__law_reached (mCons (mVar 1) (mCons (mVar 2) (mCons (mVar 3) (mCons (mVar 4) mNil))))))
      (mSeq (mSet 6 (mList (mComp [12] (fun E => ((mVarT 1) E).bind rg1) (gM 12) (fun E => ((mBin ixD (mVarT 5) (mVarT 12)) E).bind truD) (mVar 12))))
      (mSeq (mSet 7 (mC (.str "cut")))
      (mSeq (mIfS (fun E => ((mBin ixD (mVarT 5) (mBin ixD (mBin ixD (mVarT 2) (mVarT 4)) (mC (.int 0)))) E).bind truD) (mSet 7 (mC (.str "ring"))) mNext)
      (mSeq (mSet 8 (mList (fun E => ((mBin ixD (mVarT 3) (mC (.int 0))) E).bind seqOf)))
      (mSeq (mSet 9 (mList (fun E => ((mBin ixD (mVarT 3) (mC (.int 1))) E).bind seqOf)))
      (mSeq (mSetTF 10 13 (mCallTFL 4 mT_ring_or_cut (mCons (mVar 0) (mCons (mVar 8) (mCons (mVar 9) (mCons (mVar 4) mNil))))))
      (mSeq (mIfS (mNot (fun E => ((mCallT 6 m__law_told_right (mCons (mVarT 1) (mCons (mVarT 2) (mCons (mVarT 3) (mCons (mVarT 4) (mCons (mVarT 7) (mCons (mVarV 10) mNil))))))) E).bind truD)) (mRet (mC (.bl false))) mNext)
      (mSeq (mSetRix 11 10 1)
      (mSeq (mIfS (mAnd (fun E => ((mBin eqD (mVarT 7) (mC (.str "ring"))) E).bind blOf) (mNot (fun E => ((mCall 2 m__law_same (mCons (mCall 5 m_is_ring (mCons (mVar 0) (mCons (mVar 8) (mCons (mVar 9) (mCons (mVar 4) (mCons (mList (fun E => ((mVarT 11) E).bind seqOf)) mNil)))))) (mCons (mC (.bl true)) mNil))) E).bind truD))) (mRet (mC (.bl false))) mNext)
      (mSeq (mIfS (mAnd (fun E => ((mBin eqD (mVarT 7) (mC (.str "cut"))) E).bind blOf) (mNot (fun E => ((mCall 2 m__law_same (mCons (mCall 5 m_is_cut (mCons (mVar 0) (mCons (mVar 8) (mCons (mVar 9) (mCons (mVar 4) (mCons (mList (fun E => ((mVarT 11) E).bind seqOf)) mNil)))))) (mCons (mC (.bl true)) mNil))) E).bind truD))) (mRet (mC (.bl false))) mNext)
      (mSeq (mIfS (mNot (fun E => ((mCall 2 m__law_same (mCons (mCall 5 m_is_cut (mCons (mVar 0) (mCons (mVar 8) (mCons (mVar 9) (mCons (mVar 4) (mCons (mVar 6) mNil)))))) (mCons (mBin eqD (mVarT 7) (mC (.str "cut"))) mNil))) E).bind truD)) (mRet (mC (.bl false))) mNext)
      (mSeq (mClear 11)
      (mSeq (mIfS (mNot (fun E => ((mCall 6 m__law_told_right (mCons (mVar 1) (mCons (mVar 2) (mCons (mVar 3) (mCons (mVar 4) (mCons (mVar 7) (mCons (fun E => ((mCallTFL 4 mT_ring_or_cut (mCons (mVar 0) (mCons (mVar 8) (mCons (mVar 9) (mCons (mVar 4) mNil))))) E).map tfD) mNil))))))) E).bind truD)) (mRet (mC (.bl false))) mNext)
      (mRet (mAndV (mBin eqD (mVarT 8) (mBin ixD (mVarT 3) (mC (.int 0)))) (mBin eqD (mVarT 9) (mBin ixD (mVarT 3) (mC (.int 1))))))))))))))))))))
def m__law_asked_right : List D → Option D := callM 5 14 b__law_asked_right
theorem fn__law_asked_right {f : Addr} {fd : FuncData} (F : FunD K "_law_asked_right" "_law_asked_right" (defArgs s__law_asked_right) (defBody s__law_asked_right) (defScope s__law_asked_right) [] [] f fd) (c__law_reached : Cal P w K mg base "_law_reached" 1 4 m__law_reached) (c__law_told_right : Cal P w K mg base "_law_told_right" 2 6 m__law_told_right) (c__law_same : Cal P w K mg base "_law_same" 1 2 m__law_same) (c_is_ring : Cal P w K mg base "is_ring" 2 5 m_is_ring) (c_is_cut : Cal P w K mg base "is_cut" 2 5 m_is_cut) (t_ring_or_cut : CalTF P w K mg base "ring_or_cut" 3 4 mT_ring_or_cut) (h_range : mg "range" = none) (h_list : mg "list" = none) : FnOk P w K mg base CX0 4 f fd ["net", "count", "arcs", "paint", "asked"] (spD K 5 m__law_asked_right) :=
  fn_mk (N := N__law_asked_right) (m := b__law_asked_right) F sc__law_asked_right rfl (fun cdv A outer s H E hr =>
      (dss_cons (ds_set 5 sc__law_asked_right.nd (de_call c__law_reached (hr.mono (by decide)) (da_cons (de_var 1) (da_cons (de_var 2) (da_cons (de_var 3) (da_cons (de_var 4) da_nil))))))
      (dss_cons (ds_setLcF 6 (own := [("node", 12)]) rfl sc__law_asked_right.nd (DI.t (di_range1 h_range (dt_var 1))) (blkOk_by (N := N__law_asked_right) (sc := defScope s__law_asked_right) (by decide +kernel)) (by decide) (fun _ _ _ _ _ => (dg_name 12 sc__law_asked_right.nd)) (fun _ _ _ _ _ => (dts_one (db_tru (DE.t (de_ix (dt_var 5) (dt_var 12)))))) (fun _ _ _ _ _ => (de_var 12)) (sw_true rfl rfl rfl (by decide +kernel)))
      (dss_cons (ds_set 7 sc__law_asked_right.nd de_str)
      (dss_cons (ds_if (db_tru (DE.t (de_ix (dt_var 5) (DE.t (de_ix (DE.t (de_ix (dt_var 2) (dt_var 4))) (DE.t de_int)))))) (dss_one (ds_set 7 sc__law_asked_right.nd de_str)) dss_nil)
      (dss_cons (ds_set 8 sc__law_asked_right.nd (DF.toE (df_list h_list (DE.t (de_ix (dt_var 3) (DE.t de_int))))))
      (dss_cons (ds_set 9 sc__law_asked_right.nd (DF.toE (df_list h_list (DE.t (de_ix (dt_var 3) (DE.t de_int))))))
      (dss_cons (ds_setTF 10 13 sc__law_asked_right.nd (dtf_call t_ring_or_cut (hr.mono (by decide)) (dal_consE (de_var 0) (dal_consE (de_var 8) (dal_consE (de_var 9) (dal_consE (de_var 4) dal_nil))))))
      (dss_cons (ds_if (db_not (db_tru (DE.t (de_callT c__law_told_right (hr.mono (by decide)) (dat_cons (dt_var 1) (dat_cons (dt_var 2) (dat_cons (dt_var 3) (dat_cons (dt_var 4) (dat_cons (dt_var 7) (dat_consV (dv_var 10) dat_nil)))))))))) (dss_one (ds_ret (DE.t de_bl))) dss_nil)
      (dss_cons (ds_setRix 11 10 1 sc__law_asked_right.nd)
      (dss_cons (ds_if (DW.toB (dw_and (db_cmp (op_eqAll hr) od_eq (dt_var 7) (DE.t de_str)) (dw_and1 (db_not (db_tru (DE.t (de_call c__law_same (hr.mono (by decide)) (da_cons (de_call c_is_ring (hr.mono (by decide)) (da_cons (de_var 0) (da_cons (de_var 8) (da_cons (de_var 9) (da_cons (de_var 4) (da_cons (DF.toE (df_list h_list (dt_var 11))) da_nil)))))) (da_cons de_bl da_nil))))))))) (dss_one (ds_ret (DE.t de_bl))) dss_nil)
      (dss_cons (ds_if (DW.toB (dw_and (db_cmp (op_eqAll hr) od_eq (dt_var 7) (DE.t de_str)) (dw_and1 (db_not (db_tru (DE.t (de_call c__law_same (hr.mono (by decide)) (da_cons (de_call c_is_cut (hr.mono (by decide)) (da_cons (de_var 0) (da_cons (de_var 8) (da_cons (de_var 9) (da_cons (de_var 4) (da_cons (DF.toE (df_list h_list (dt_var 11))) da_nil)))))) (da_cons de_bl da_nil))))))))) (dss_one (ds_ret (DE.t de_bl))) dss_nil)
      (dss_cons (ds_if (db_not (db_tru (DE.t (de_call c__law_same (hr.mono (by decide)) (da_cons (de_call c_is_cut (hr.mono (by decide)) (da_cons (de_var 0) (da_cons (de_var 8) (da_cons (de_var 9) (da_cons (de_var 4) (da_cons (de_var 6) da_nil)))))) (da_cons (de_cmp (op_eqAll hr) od_eq (dt_var 7) (DE.t de_str)) da_nil)))))) (dss_one (ds_ret (DE.t de_bl))) dss_nil)
      (dss_cons (ds_clear 11)
      (dss_cons (ds_if (db_not (db_tru (DE.t (de_call c__law_told_right (hr.mono (by decide)) (da_cons (de_var 1) (da_cons (de_var 2) (da_cons (de_var 3) (da_cons (de_var 4) (da_cons (de_var 7) (da_cons (DTF.toE (dtf_call t_ring_or_cut (hr.mono (by decide)) (dal_consE (de_var 0) (dal_consE (de_var 8) (dal_consE (de_var 9) (dal_consE (de_var 4) dal_nil)))))) da_nil)))))))))) (dss_one (ds_ret (DE.t de_bl))) dss_nil)
      (dss_one (ds_ret (DE.t (de_and (de_cmp (op_eqAll hr) od_eq (dt_var 8) (DE.t (de_ix (dt_var 3) (DE.t de_int)))) (de_one (de_cmp (op_eqAll hr) od_eq (dt_var 9) (DE.t (de_ix (dt_var 3) (DE.t de_int))))))))))))))))))))))))
theorem bd__law_asked_right (kV doc pm : Value) (an : Option Addr) (cdv ct : Value) (us : List Value) (hl : us.length = ["net", "count", "arcs", "paint", "asked"].length) : bindArgs (PySem.W.fnOf "_law_asked_right" "_law_asked_right" (defArgs s__law_asked_right) (defBody s__law_asked_right) (defScope s__law_asked_right) .none kV doc pm an cdv ct) ⟨us, []⟩ = pure ((["net", "count", "arcs", "paint", "asked"] : List Str).zip us) := match us, hl with | [_, _, _, _, _], _ => rfl
theorem cal__law_asked_right (F : Stands K mg "_law_asked_right" s__law_asked_right) (c__law_reached : Cal P w K mg base "_law_reached" 1 4 m__law_reached) (c__law_told_right : Cal P w K mg base "_law_told_right" 2 6 m__law_told_right) (c__law_same : Cal P w K mg base "_law_same" 1 2 m__law_same) (c_is_ring : Cal P w K mg base "is_ring" 2 5 m_is_ring) (c_is_cut : Cal P w K mg base "is_cut" 2 5 m_is_cut) (t_ring_or_cut : CalTF P w K mg base "ring_or_cut" 3 4 mT_ring_or_cut) (h_range : mg "range" = none) (h_list : mg "list" = none) : Cal P w K mg base "_law_asked_right" 4 5 m__law_asked_right :=
  cal_of F bd__law_asked_right fun F => fn__law_asked_right F c__law_reached c__law_told_right c__law_same c_is_ring c_is_cut t_ring_or_cut h_range h_list

abbrev s__law_changed_right : Stmt := topS 31
abbrev N__law_changed_right : List Str := ["script", "net", "count", "arcs", "paint", "asked", "rises", "falls", "turn", "now", "due", "told", "pair", "k"]
theorem sc__law_changed_right : FnScope N__law_changed_right ["script", "net", "count", "arcs", "paint", "asked"] (defScope s__law_changed_right) := ⟨rfl, rfl, rfl, by decide +kernel, rfl, by decide +kernel, by decide +kernel⟩
def b__law_changed_right : En → Option Out :=
      (mSeq (mSetO 6 (fun E => ((mBin ixD (mVarT 4) (mC (.int 0))) E).bind seqOf))
      (mSeq (mSetO 7 (fun E => ((mBin ixD (mVarT 4) (mC (.int 1))) E).bind seqOf))
      (mSeq (mFor (fun E => ((mC (.int 5)) E).bind rg1) (gM 8) (mSeq (mSet 9 (mTup (mCons (mList (fun E => ((mVarT 6) E).bind seqOf)) (mCons (mList (fun E => ((mVarT 7) E).bind seqOf)) mNil))))
      (mSeq (mSet 10 (mC (.str "cut")))
      (mSeq (mIfS (fun E => ((mBin ixD (mCall 4 m__law_reached (mCons (mVar 2) (mCons (mVar 3) (mCons (mVar 9) (mCons (mVar 5) mNil))))) (mBin ixD (mBin ixD (mVarT 3) (mVarT 5)) (mC (.int 0)))) E).bind truD) (mSet 10 (mC (.str "ring"))) mNext)
      (mSeq (mSet 11 (fun E => ((mCallTFL 4 mT_ring_or_cut (mCons (mVar 1) (mCons (mIsL (mVarT 6)) (mCons (mIsL (mVarT 7)) (mCons (mVar 5) mNil))))) E).map tfD))
      (mSeq (mIfS (mOr (mNot (fun E => ((mCall 6 m__law_told_right (mCons (mVar 2) (mCons (mVar 3) (mCons (mVar 9) (mCons (mVar 5) (mCons (mVar 10) (mCons (mVar 11) mNil))))))) E).bind truD)) (mOr (fun E => ((mBin neD (mVarT 6) (mBin ixD (mVarT 9) (mC (.int 0)))) E).bind blOf) (fun E => ((mBin neD (mVarT 7) (mBin ixD (mVarT 9) (mC (.int 1)))) E).bind blOf))) (mRet (mC (.bl false))) mNext)
      (mIfS (fun E => ((mBin eqD (mVarT 10) (mC (.str "ring"))) E).bind blOf) (mSeq (mSet 12 (mBin ixD (mBin ixD (mVarT 11) (mC (.int 1))) (mBin addD (mC (.int 1)) (mCall 4 m__law_draw (mCons (mVar 0) (mCons (mC (.int 9)) (mCons (mVar 8) (mCons (mBin (intOp fun i j => .int (i - j)) (mUn lenD (mBin ixD (mVarT 11) (mC (.int 1)))) (mC (.int 1))) mNil))))))))
      (mSeq (mSub 6 (mAndV (mBin ixD (mVarT 6) (mBin ixD (mVarT 12) (mC (.int 0)))) (mBin eqD (mBin ixD (mVarT 12) (mC (.int 1))) (mUn negD (mC (.int 1))))) (mBin ixD (mVarT 12) (mC (.int 0))))
      (mSub 7 (mAndV (mBin ixD (mVarT 7) (mBin ixD (mVarT 12) (mC (.int 0)))) (mBin eqD (mBin ixD (mVarT 12) (mC (.int 1))) (mC (.int 1)))) (mBin ixD (mVarT 12) (mC (.int 0)))))) (mSeq (mSet 13 (mCall 4 m__law_draw (mCons (mVar 0) (mCons (mC (.int 10)) (mCons (mVar 8) (mCons (mUn lenD (mVarT 3)) mNil))))))
      (mSeq (mSub 6 (mC (.bl true)) (mVar 13))
      (mSub 7 (mC (.bl true)) (mVar 13)))))))))))
      (mRet (mC (.bl true))))))
def m__law_changed_right : List D → Option D := callM 6 14 b__law_changed_right
theorem fn__law_changed_right {f : Addr} {fd : FuncData} (F : FunD K "_law_changed_right" "_law_changed_right" (defArgs s__law_changed_right) (defBody s__law_changed_right) (defScope s__law_changed_right) [] [] f fd) (c__law_reached : Cal P w K mg base "_law_reached" 1 4 m__law_reached) (c__law_told_right : Cal P w K mg base "_law_told_right" 2 6 m__law_told_right) (c__law_draw : Cal P w K mg base "_law_draw" 2 4 m__law_draw) (t_ring_or_cut : CalTF P w K mg base "ring_or_cut" 3 4 mT_ring_or_cut) (h_list : mg "list" = none) (h_range : mg "range" = none) (h_len : mg "len" = none) : FnOk P w K mg base CX0 4 f fd ["script", "net", "count", "arcs", "paint", "asked"] (spD K 6 m__law_changed_right) :=
  fn_mk (N := N__law_changed_right) (m := b__law_changed_right) F sc__law_changed_right rfl (fun cdv A outer s H E hr =>
      (dss_cons (ds_setO 6 sc__law_changed_right.nd (df_list h_list (DE.t (de_ix (dt_var 4) (DE.t de_int)))))
      (dss_cons (ds_setO 7 sc__law_changed_right.nd (df_list h_list (DE.t (de_ix (dt_var 4) (DE.t de_int)))))
      (dss_cons (ds_for PassesOwn.never rfl (di_range1 h_range (DE.t de_int)) (dg_name 8 sc__law_changed_right.nd) (dss_cons (ds_set 9 sc__law_changed_right.nd (de_tup (da_cons (DF.toE (df_list h_list (dt_var 6))) (da_cons (DF.toE (df_list h_list (dt_var 7))) da_nil))))
      (dss_cons (ds_set 10 sc__law_changed_right.nd de_str)
      (dss_cons (ds_if (db_tru (DE.t (de_ix (DE.t (de_call c__law_reached (hr.mono (by decide)) (da_cons (de_var 2) (da_cons (de_var 3) (da_cons (de_var 9) (da_cons (de_var 5) da_nil)))))) (DE.t (de_ix (DE.t (de_ix (dt_var 3) (dt_var 5))) (DE.t de_int)))))) (dss_one (ds_set 10 sc__law_changed_right.nd de_str)) dss_nil)
      (dss_cons (ds_set 11 sc__law_changed_right.nd (DTF.toE (dtf_call t_ring_or_cut (hr.mono (by decide)) (dal_consE (de_var 1) (dal_consT (dt_var 6) (dal_consT (dt_var 7) (dal_consE (de_var 5) dal_nil)))))))
      (dss_cons (ds_if (DW.toB (dw_or (db_not (db_tru (DE.t (de_call c__law_told_right (hr.mono (by decide)) (da_cons (de_var 2) (da_cons (de_var 3) (da_cons (de_var 9) (da_cons (de_var 5) (da_cons (de_var 10) (da_cons (de_var 11) da_nil)))))))))) (dw_or (db_cmp (op_neAll hr) od_ne (dt_var 6) (DE.t (de_ix (dt_var 9) (DE.t de_int)))) (dw_or1 (db_cmp (op_neAll hr) od_ne (dt_var 7) (DE.t (de_ix (dt_var 9) (DE.t de_int)))))))) (dss_one (ds_ret (DE.t de_bl))) dss_nil)
      (dss_one (ds_if (db_cmp (op_eqAll hr) od_eq (dt_var 10) (DE.t de_str)) (dss_cons (ds_set 12 sc__law_changed_right.nd (de_ix (DE.t (de_ix (dt_var 11) (DE.t de_int))) (DE.t (de_add (DE.t de_int) (DE.t (de_call c__law_draw (hr.mono (by decide)) (da_cons (de_var 0) (da_cons de_int (da_cons (de_var 8) (da_cons (de_sub (DE.t (de_len h_len (DE.t (de_ix (dt_var 11) (DE.t de_int))))) (DE.t de_int)) da_nil))))))))))
      (dss_cons (ds_sub 6 (de_and (de_ix (dt_var 6) (DE.t (de_ix (dt_var 12) (DE.t de_int)))) (de_one (de_cmp (op_eqAll hr) od_eq (DE.t (de_ix (dt_var 12) (DE.t de_int))) (DE.t (de_neg (DE.t de_int)))))) (de_ix (dt_var 12) (DE.t de_int)))
      (dss_one (ds_sub 7 (de_and (de_ix (dt_var 7) (DE.t (de_ix (dt_var 12) (DE.t de_int)))) (de_one (de_cmp (op_eqAll hr) od_eq (DE.t (de_ix (dt_var 12) (DE.t de_int))) (DE.t de_int)))) (de_ix (dt_var 12) (DE.t de_int)))))) (dss_cons (ds_set 13 sc__law_changed_right.nd (de_call c__law_draw (hr.mono (by decide)) (da_cons (de_var 0) (da_cons de_int (da_cons (de_var 8) (da_cons (de_len h_len (dt_var 3)) da_nil))))))
      (dss_cons (ds_sub 6 de_bl (de_var 13))
      (dss_one (ds_sub 7 de_bl (de_var 13)))))))))))))
      (dss_one (ds_ret (DE.t de_bl)))))))
theorem bd__law_changed_right (kV doc pm : Value) (an : Option Addr) (cdv ct : Value) (us : List Value) (hl : us.length = ["script", "net", "count", "arcs", "paint", "asked"].length) : bindArgs (PySem.W.fnOf "_law_changed_right" "_law_changed_right" (defArgs s__law_changed_right) (defBody s__law_changed_right) (defScope s__law_changed_right) .none kV doc pm an cdv ct) ⟨us, []⟩ = pure ((["script", "net", "count", "arcs", "paint", "asked"] : List Str).zip us) := match us, hl with | [_, _, _, _, _, _], _ => rfl
theorem cal__law_changed_right (F : Stands K mg "_law_changed_right" s__law_changed_right) (c__law_reached : Cal P w K mg base "_law_reached" 1 4 m__law_reached) (c__law_told_right : Cal P w K mg base "_law_told_right" 2 6 m__law_told_right) (c__law_draw : Cal P w K mg base "_law_draw" 2 4 m__law_draw) (t_ring_or_cut : CalTF P w K mg base "ring_or_cut" 3 4 mT_ring_or_cut) (h_list : mg "list" = none) (h_range : mg "range" = none) (h_len : mg "len" = none) : Cal P w K mg base "_law_changed_right" 4 6 m__law_changed_right :=
  cal_of F bd__law_changed_right fun F => fn__law_changed_right F c__law_reached c__law_told_right c__law_draw t_ring_or_cut h_list h_range h_len

abbrev s_law : Stmt := topS 32
abbrev N_law : List Str := ["script", "large", "built", "count", "arcs", "asked", "paint", "given", "net", "turned", "other", "k", "arc"]
theorem sc_law : FnScope N_law ["script"] (defScope s_law) := ⟨rfl, rfl, rfl, by decide +kernel, rfl, by decide +kernel, by decide +kernel⟩
def b_law : En → Option Out :=
      (mSeq (mSet 1 (mBin eqD (mCall 4 m__law_draw (mCons (mVar 0) (mCons (mC (.int 0)) (mCons (mC (.int 0)) (mCons (mC (.int 16)) mNil))))) (mC (.int 0))))
      (mSeq (mSet 2 (mCall 2 m__law_net (mCons (mVar 0) (mCons (mVar 1) mNil))))
      (mSeq (mSet 3 (mBin ixD (mVarT 2) (mC (.int 0))))
      (mSeq (mSet 4 (mBin ixD (mVarT 2) (mC (.int 1))))
      (mSeq (mSet 5 (mBin ixD (mBin ixD (mBin ixD (mVarT 2) (mC (.int 2))) (mC (.int 0))) (mC (.int 0))))
      (mSeq (mSet 6 (mCall 4 m__law_painted (mCons (mVar 0) (mCons (mVar 3) (mCons (mVar 4) (mCons (mBin ixD (mVarT 2) (mC (.int 2))) mNil))))))
      (mSeq (mSetO 7 (fun E => ((mVarT 4) E).bind seqOf))
      (mSeq (mSet 8 (mCallL 2 mi_Net (mCons (mVar 3) (mCons (mIsL (mVarT 7)) mNil))))
      (mSeq (mClear 7)
      (mSeq (mIfS (fun E => ((mVarT 1) E).bind truD) (mSeq (mIfS (fun E => ((mBin eqD (mCall 4 m__law_draw (mCons (mVar 0) (mCons (mC (.int 11)) (mCons (mC (.int 0)) (mCons (mC (.int 3)) mNil))))) (mC (.int 0))) E).bind blOf) (mSet 5 (mCall 4 m__law_draw (mCons (mVar 0) (mCons (mC (.int 11)) (mCons (mC (.int 1)) (mCons (mUn lenD (mVarT 4)) mNil)))))) mNext)
      (mRet (mCall 5 m__law_asked_right (mCons (mVar 8) (mCons (mVar 3) (mCons (mVar 4) (mCons (mVar 6) (mCons (mVar 5) mNil)))))))) mNext)
      (mSeq (mSet 9 (mList (mComp [12] (fun E => ((mVarT 4) E).bind lstOf) (gM 12) mYes (mTup (mCons (mBin ixD (mVarT 12) (mC (.int 1))) (mCons (mBin ixD (mVarT 12) (mC (.int 0))) mNil))))))
      (mSeq (mSet 10 (mCallL 2 mi_Net (mCons (mVar 3) (mCons (mList (fun E => ((mVarT 9) E).bind seqOf)) mNil))))
      (mSeq (mFor (fun E => ((mUn lenD (mVarT 4)) E).bind rg1) (gM 11) (mSeq (mIfS (mNot (fun E => ((mCall 5 m__law_asked_right (mCons (mVar 8) (mCons (mVar 3) (mCons (mVar 4) (mCons (mVar 6) (mCons (mVar 11) mNil)))))) E).bind truD)) (mRet (mC (.bl false))) mNext)
      (mIfS (mNot (fun E => ((mCall 5 m__law_asked_right (mCons (mVar 10) (mCons (mVar 3) (mCons (mVar 9) (mCons (mVar 6) (mCons (mVar 11) mNil)))))) E).bind truD)) (mRet (mC (.bl false))) mNext)))
      (mRet (mCall 6 m__law_changed_right (mCons (mVar 0) (mCons (mVar 8) (mCons (mVar 3) (mCons (mVar 4) (mCons (mVar 6) (mCons (mVar 5) mNil)))))))))))))))))))))
def m_law : List D → Option D := callM 1 13 b_law
theorem fn_law {f : Addr} {fd : FuncData} (F : FunD K "law" "law" (defArgs s_law) (defBody s_law) (defScope s_law) [] [] f fd) (c__law_draw : Cal P w K mg base "_law_draw" 2 4 m__law_draw) (c__law_net : Cal P w K mg base "_law_net" 5 2 m__law_net) (c__law_painted : Cal P w K mg base "_law_painted" 5 4 m__law_painted) (c__law_asked_right : Cal P w K mg base "_law_asked_right" 4 5 m__law_asked_right) (c__law_changed_right : Cal P w K mg base "_law_changed_right" 4 6 m__law_changed_right) (i_Net : CalI P w K mg base "Net" 1 2 mi_Net) (h_list : mg "list" = none) (h_len : mg "len" = none) (h_range : mg "range" = none) : FnOk P w K mg base CX0 6 f fd ["script"] (spD K 1 m_law) :=
  fn_mk (N := N_law) (m := b_law) F sc_law rfl (fun cdv A outer s H E hr =>
      (dss_cons (ds_set 1 sc_law.nd (de_cmp (op_eqAll hr) od_eq (DE.t (de_call c__law_draw (hr.mono (by decide)) (da_cons (de_var 0) (da_cons de_int (da_cons de_int (da_cons de_int da_nil)))))) (DE.t de_int)))
      (dss_cons (ds_set 2 sc_law.nd (de_call c__law_net (hr.mono (by decide)) (da_cons (de_var 0) (da_cons (de_var 1) da_nil))))
      (dss_cons (ds_set 3 sc_law.nd (de_ix (dt_var 2) (DE.t de_int)))
      (dss_cons (ds_set 4 sc_law.nd (de_ix (dt_var 2) (DE.t de_int)))
      (dss_cons (ds_set 5 sc_law.nd (de_ix (DE.t (de_ix (DE.t (de_ix (dt_var 2) (DE.t de_int))) (DE.t de_int))) (DE.t de_int)))
      (dss_cons (ds_set 6 sc_law.nd (de_call c__law_painted (hr.mono (by decide)) (da_cons (de_var 0) (da_cons (de_var 3) (da_cons (de_var 4) (da_cons (de_ix (dt_var 2) (DE.t de_int)) da_nil))))))
      (dss_cons (ds_setO 7 sc_law.nd (df_list h_list (dt_var 4)))
      (dss_cons (ds_set 8 sc_law.nd (de_make i_Net (hr.mono (by decide)) (dal_consE (de_var 3) (dal_consT (dt_var 7) dal_nil))))
      (dss_cons (ds_clear 7)
      (dss_cons (ds_if (db_tru (dt_var 1)) (dss_cons (ds_if (db_cmp (op_eqAll hr) od_eq (DE.t (de_call c__law_draw (hr.mono (by decide)) (da_cons (de_var 0) (da_cons de_int (da_cons de_int (da_cons de_int da_nil)))))) (DE.t de_int)) (dss_one (ds_set 5 sc_law.nd (de_call c__law_draw (hr.mono (by decide)) (da_cons (de_var 0) (da_cons de_int (da_cons de_int (da_cons (de_len h_len (dt_var 4)) da_nil))))))) dss_nil)
      (dss_one (ds_ret (DE.t (de_call c__law_asked_right (hr.mono (by decide)) (da_cons (de_var 8) (da_cons (de_var 3) (da_cons (de_var 4) (da_cons (de_var 6) (da_cons (de_var 5) da_nil)))))))))) dss_nil)
      (dss_cons (ds_setLcF 9 (own := [("arc", 12)]) rfl sc_law.nd (dit_list (dt_var 4)) (blkOk_by (N := N_law) (sc := defScope s_law) (by decide +kernel)) (by decide) (fun _ _ _ _ _ => (dg_name 12 sc_law.nd)) (fun _ _ _ _ _ => dts_nil) (fun _ _ _ _ _ => (de_tup (da_cons (de_ix (dt_var 12) (DE.t de_int)) (da_cons (de_ix (dt_var 12) (DE.t de_int)) da_nil)))) (sw_true rfl rfl rfl (by decide +kernel)))
      (dss_cons (ds_set 10 sc_law.nd (de_make i_Net (hr.mono (by decide)) (dal_consE (de_var 3) (dal_consE (DF.toE (df_list h_list (dt_var 9))) dal_nil))))
      (dss_cons (ds_for PassesOwn.never rfl (di_range1 h_range (DE.t (de_len h_len (dt_var 4)))) (dg_name 11 sc_law.nd) (dss_cons (ds_if (db_not (db_tru (DE.t (de_call c__law_asked_right (hr.mono (by decide)) (da_cons (de_var 8) (da_cons (de_var 3) (da_cons (de_var 4) (da_cons (de_var 6) (da_cons (de_var 11) da_nil))))))))) (dss_one (ds_ret (DE.t de_bl))) dss_nil)
      (dss_one (ds_if (db_not (db_tru (DE.t (de_call c__law_asked_right (hr.mono (by decide)) (da_cons (de_var 10) (da_cons (de_var 3) (da_cons (de_var 9) (da_cons (de_var 6) (da_cons (de_var 11) da_nil))))))))) (dss_one (ds_ret (DE.t de_bl))) dss_nil))))
      (dss_one (ds_ret (DE.t (de_call c__law_changed_right (hr.mono (by decide)) (da_cons (de_var 0) (da_cons (de_var 8) (da_cons (de_var 3) (da_cons (de_var 4) (da_cons (de_var 6) (da_cons (de_var 5) da_nil))))))))))))))))))))))))
theorem bd_law (kV doc pm : Value) (an : Option Addr) (cdv ct : Value) (us : List Value) (hl : us.length = ["script"].length) : bindArgs (PySem.W.fnOf "law" "law" (defArgs s_law) (defBody s_law) (defScope s_law) .none kV doc pm an cdv ct) ⟨us, []⟩ = pure ((["script"] : List Str).zip us) := match us, hl with | [_], _ => rfl
theorem cal_law (F : Stands K mg "law" s_law) (c__law_draw : Cal P w K mg base "_law_draw" 2 4 m__law_draw) (c__law_net : Cal P w K mg base "_law_net" 5 2 m__law_net) (c__law_painted : Cal P w K mg base "_law_painted" 5 4 m__law_painted) (c__law_asked_right : Cal P w K mg base "_law_asked_right" 4 5 m__law_asked_right) (c__law_changed_right : Cal P w K mg base "_law_changed_right" 4 6 m__law_changed_right) (i_Net : CalI P w K mg base "Net" 1 2 mi_Net) (h_list : mg "list" = none) (h_len : mg "len" = none) (h_range : mg "range" = none) : Cal P w K mg base "law" 6 1 m_law :=
  cal_of F bd_law fun F => fn_law F c__law_draw c__law_net c__law_painted c__law_asked_right c__law_changed_right i_Net h_list h_len h_range

end
end Sx


set_option Elab.async false
set_option linter.all false
set_option maxRecDepth 100000
set_option maxHeartbeats 2000000
namespace Sx
open PySem L2
theorem cell_ok (ns : List Int) (at_ : Int) (h : 0 ≤ at_) : ∃ r : Int, m__law_cell [.scr ns, .int at_] = some (.int r) := by
  unfold m__law_cell callM b__law_cell
  by_cases hl : at_ < (ns.length : Int)
  · obtain ⟨x, hx, _⟩ := atI_nat' h hl
    exact ⟨x, by simp [hl, hx]⟩
  · simp [hl, mulOk_l]
    generalize hmb : mSet 2 _ = mb
    obtain ⟨E', h1, h2⟩ := runFor_inv (mg := gM 3) (mb := mb) (fun _ E => ∃ s r, E = [.fz (.scr ns), .fz (.int at_), .fz (.int r), s]) (ns.map .int) 0 [.fz (.scr ns), .fz (.int at_), .fz (.int (11 + 101 * at_)), .un] ⟨_, _, rfl⟩ fun j d E hj hI => by
      obtain ⟨s, r, rfl⟩ := hI
      obtain ⟨c, rfl, _⟩ := ints_at hj
      refine ⟨_, _, rfl, .inl ?_, ⟨.fz (.int c), (r * 31 + c) % 1000000007, rfl⟩⟩
      subst hmb
      simp [mulOk_r]
    obtain ⟨s, r, rfl⟩ := h2
    exact ⟨r, by simp [h1]⟩
theorem draw_ok (ns : List Int) {at_ k size : Int} (h : 0 ≤ at_) (hk : 0 ≤ k ∧ k ≤ 90000) (hs : 0 < size) : ∃ r : Int, m__law_draw [.scr ns, .int at_, .int k, .int size] = some (.int r) ∧ 0 ≤ r ∧ r < size := by
  obtain ⟨c, hc⟩ := cell_ok ns at_ h
  have last : ∀ x : Int, 0 ≤ x % size ∧ x % size < size := fun x => ⟨Int.emod_nonneg _ (by omega), Int.emod_lt_of_pos _ hs⟩
  have m1 : ∀ x : Int, -18446744073709551616 < x % 2147483647 ∧ x % 2147483647 < 18446744073709551616 := fun x => by omega
  have m2 : ∀ x : Int, -18446744073709551616 < x % 2147483629 ∧ x % 2147483629 < 18446744073709551616 := fun x => by omega
  unfold m__law_draw callM b__law_draw
  by_cases hb : (1000000000000000000 : Int) ≤ c
  · simp [hc, hb, powOk_c, mulOk_l, mulOk_r, divOk_c, hs, m1, m2, hk, show -100000 ≤ k by omega, show k ≤ 100000 by omega]
    generalize hmb : mSet 6 _ = mb
    obtain ⟨E', h1, h2⟩ := runFor_inv (mg := gM 7) (mb := mb) (fun _ E => ∃ s r, E = [.fz (.scr ns), .fz (.int at_), .fz (.int k), .fz (.int size), .fz (.int c), .un, .fz (.int r), s]) (rangeD 0 k.toNat) 0 [.fz (.scr ns), .fz (.int at_), .fz (.int k), .fz (.int size), .fz (.int c), .un, .fz (.int c), .un] ⟨_, _, rfl⟩ fun j d E hj hI => by
      obtain ⟨s, r, rfl⟩ := hI
      obtain ⟨rfl, _⟩ := range_at hj
      refine ⟨_, _, rfl, .inl ?_, ⟨.fz (.int (0 + j)), r / 1000003, rfl⟩⟩
      subst hmb
      simp [divOk_c]
    obtain ⟨s, r, rfl⟩ := h2
    by_cases hr : 0 < r
    · exact ⟨r % 1000003 % size, by simp [h1, hr, hs], last _⟩
    · refine ⟨?x % size, ?h, last ?x⟩
      case h =>
        simp [h1, hr, hs, mulOk_l, mulOk_r, divOk_c, m1, m2]
        rfl
  · refine ⟨?x % size, ?h, last ?x⟩
    case h => simp [hc, hb, powOk_c, mulOk_l, mulOk_r, divOk_c, hs, m1, m2]
theorem rangeD_eq (lo : Int) (n : Nat) : rangeD lo n = (List.range n).map fun (i : Nat) => D.int (lo + (i : Int)) := rfl
theorem digits_ok (ns : List Int) {at_ count : Int} (h : 0 ≤ at_) (hc : 0 ≤ count ∧ count ≤ 90000) : ∃ zs : List Int, m__law_digits [.scr ns, .int at_, .int count] = some (.lst (zs.map .int)) ∧ (zs.length : Int) = count ∧ ∀ z ∈ zs, 0 ≤ z := by
  obtain ⟨m0, hm0, _⟩ := draw_ok ns (at_ := at_) (k := 40) (size := 1000003) h (by omega) (by omega)
  unfold m__law_digits callM b__law_digits
  have hmin : ∃ n : Int, (if (24 : Int) < count then 24 else count) = n ∧ 0 ≤ n ∧ n ≤ 24 ∧ n ≤ count ∧ (n = count ∨ n = 24) := by
    split
    · exact ⟨24, rfl, by omega⟩
    · exact ⟨count, rfl, by omega⟩
  obtain ⟨n, hn, n0, n24, nc, nn⟩ := hmin
  simp [hn, show n ≤ 100000 by omega, show -100000 ≤ n by omega, hm0, rangeD_len, show n.toNat ≤ 100000 by omega, show count ≤ 100000 by omega, show -100000 ≤ count by omega]
  generalize hme : mCall 4 m__law_draw _ = me
  obtain ⟨zs, c1, c2⟩ := runComp_enc (mg := gM 5) (mt := mYes) (me := me) (E0 := [.fz (.scr ns), .fz (.int at_), .fz (.int count), .un, .un, .un]) (fun (i : Nat) => D.int (0 + (i : Int))) D.int (fun _ z => 0 ≤ z) (List.range n.toNat) fun i hi => by
    have hi' := List.mem_range.mp hi
    obtain ⟨r, r1, r2, r3⟩ := draw_ok ns (at_ := at_) (k := 0 + (i : Int)) (size := 1000003) h (by omega) (by omega)
    refine ⟨_, r, rfl, rfl, ?_, r2⟩
    subst hme
    simp at r1
    simp [r1]
  rw [rangeD_eq, c1]
  have hz : zs.length = n.toNat := by rw [← Paired.len c2, List.length_range]
  have hpos : ∀ z ∈ zs, 0 ≤ z := fun z hz => let ⟨_, _, q⟩ := Paired.mem c2 hz; q
  simp
  generalize hmb : mSeq (mSet 4 _) _ = mb
  obtain ⟨E', h1, h2⟩ := runFor_inv (mg := gM 5) (mb := mb) (fun j E => ∃ (ws : List Int) (r : Int) (s : Sl), E = [.fz (.scr ns), .fz (.int at_), .fz (.int count), .ow (ws.map .int), .fz (.int r), s] ∧ ws.length = n.toNat + j ∧ ∀ z ∈ ws, 0 ≤ z) (rangeD 24 (count - 24).toNat) 0 [.fz (.scr ns), .fz (.int at_), .fz (.int count), .ow (zs.map .int), .fz (.int m0), .un] ⟨zs, m0, .un, rfl, hz, hpos⟩ fun j d E hj hI => by
    obtain ⟨ws, r, s, rfl, hw, hp⟩ := hI
    obtain ⟨rfl, hjl⟩ := range_at hj
    have wl : ws.length < 100000 := by omega
    refine ⟨_, _, rfl, .inl ?_, ⟨ws ++ [((r * 48271 + 7919 * (24 + (j : Int)) + 11) % 2147483647) / 9], (r * 48271 + 7919 * (24 + (j : Int)) + 11) % 2147483647, .fz (.int (24 + (j : Int))), rfl, ?_, ?_⟩⟩
    · subst hmb
      simp [mulOk_l, mulOk_r, divOk_c, wl]
    · simp [hw]; omega
    · intro z hz
      rcases List.mem_append.mp hz with q | q
      · exact hp z q
      · have e := List.mem_singleton.mp q
        omega
  obtain ⟨ws, r, s, rfl, hw, hp⟩ := h2
  rw [rangeD_len] at hw
  refine ⟨ws, by simp [hm0, h1, show count ≤ 100000 by omega, show -100000 ≤ count by omega], ?_, hp⟩
  omega
end Sx

set_option Elab.async false
set_option linter.all false
set_option maxRecDepth 100000
set_option maxHeartbeats 2000000
namespace Sx
open PySem L2
/-! steps, ways, what is reached -/
def Stp (arcs : List (Int × Int)) (u : Int) (k : Nat) (d : Bool) (v : Int) : Prop := ∃ p, arcs[k]? = some p ∧ (if d = true then p.1 = u ∧ p.2 = v else p.2 = u ∧ p.1 = v)
def May (R F : List Bool) (k : Nat) (d : Bool) : Prop := if d = true then R[k]? = some true else F[k]? = some true
def G (arcs : List (Int × Int)) (R F : List Bool) (a : Nat) (u : Int) (k : Nat) (d : Bool) (v : Int) : Prop := k ≠ a ∧ Stp arcs u k d v ∧ May R F k d
inductive Rch (arcs : List (Int × Int)) (R F : List Bool) (a : Nat) (s : Int) : Int → Prop
  | base : Rch arcs R F a s s
  | step {u v : Int} {k : Nat} {d : Bool} : Rch arcs R F a s u → G arcs R F a u k d v → Rch arcs R F a s v
section
variable {arcs : List (Int × Int)} {R F : List Bool} {a : Nat} {n : Int}
theorem G.rng (h : ∀ p ∈ arcs, AOk n p) {u v : Int} {k : Nat} {d : Bool} (g : G arcs R F a u k d v) : (0 ≤ u ∧ u < n) ∧ (0 ≤ v ∧ v < n) ∧ k < arcs.length := by
  obtain ⟨_, ⟨p, hp, hd⟩, _⟩ := g
  obtain ⟨_, o2, o3⟩ := h p (List.mem_of_getElem? hp)
  have hk := (List.getElem?_eq_some_iff.mp hp).1
  by_cases e : d = true
  · rw [if_pos e] at hd
    obtain ⟨rfl, rfl⟩ := hd
    exact ⟨o2, o3, hk⟩
  · rw [if_neg e] at hd
    obtain ⟨rfl, rfl⟩ := hd
    exact ⟨o3, o2, hk⟩
theorem Rch.rng (h : ∀ p ∈ arcs, AOk n p) {s v : Int} (hs : 0 ≤ s ∧ s < n) (r : Rch arcs R F a s v) : 0 ≤ v ∧ v < n := by
  induction r with
  | base => exact hs
  | step _ g _ => exact (g.rng h).2.1
/-- a set with the start, closed, is all that is reached -/
theorem Rch.sub {s v : Int} (S : Int → Prop) (h0 : S s) (hc : ∀ u k d v, S u → G arcs R F a u k d v → S v) (r : Rch arcs R F a s v) : S v := by
  induction r with
  | base => exact h0
  | step _ g ih => exact hc _ _ _ _ ih g
/-- a way, with the nodes that it comes to -/
inductive Pth (arcs : List (Int × Int)) (R F : List Bool) (a : Nat) : List (Nat × Bool) → Int → Int → List Int → Prop
  | nil (u : Int) : Pth arcs R F a [] u u []
  | cons {u v w : Int} {k : Nat} {d : Bool} {ps : List (Nat × Bool)} {vs : List Int} : G arcs R F a u k d v → Pth arcs R F a ps v w vs → Pth arcs R F a ((k, d) :: ps) u w (v :: vs)
theorem Pth.snoc {u v w : Int} {k : Nat} {d : Bool} {ps : List (Nat × Bool)} {vs : List Int} (p : Pth arcs R F a ps u v vs) (g : G arcs R F a v k d w) : Pth arcs R F a (ps ++ [(k, d)]) u w (vs ++ [w]) := by
  induction p with
  | nil u => exact .cons g (.nil w)
  | cons h _ ih => exact .cons h (ih g)
theorem Pth.len {u v : Int} {ps : List (Nat × Bool)} {vs : List Int} (p : Pth arcs R F a ps u v vs) : vs.length = ps.length := by
  induction p with
  | nil u => rfl
  | cons h _ ih => rw [List.length_cons, List.length_cons, ih]
theorem Pth.rch {s u v : Int} {ps : List (Nat × Bool)} {vs : List Int} (p : Pth arcs R F a ps u v vs) (r : Rch arcs R F a s u) : Rch arcs R F a s v := by
  induction p with
  | nil u => exact r
  | cons h _ ih => exact ih (.step r h)
end
/-! the links of a node -/
def lk1 (v : Int) (i : Nat) (p : Int × Int) : List (Nat × Bool × Int) := (if p.1 = v then [(i, true, p.2)] else []) ++ (if p.2 = v then [(i, false, p.1)] else [])
def lk (v : Int) : List (Int × Int) → Nat → List (Nat × Bool × Int)
  | [], _ => []
  | p :: ps, i => lk1 v i p ++ lk v ps (i + 1)
theorem lk_snoc (v : Int) (p : Int × Int) : ∀ (ps : List (Int × Int)) (i : Nat), lk v (ps ++ [p]) i = lk v ps i ++ lk1 v (i + ps.length) p
  | [], i => by simp [lk]
  | q :: ps, i => by
    rw [List.cons_append, lk, lk_snoc v p ps (i + 1), lk, List.append_assoc, List.length_cons, show i + 1 + ps.length = i + (ps.length + 1) by omega]
theorem lk1_mem {v : Int} {i : Nat} {p : Int × Int} {k : Nat} {d : Bool} {w : Int} : (k, d, w) ∈ lk1 v i p ↔ k = i ∧ (if d = true then p.1 = v ∧ p.2 = w else p.2 = v ∧ p.1 = w) := by
  unfold lk1
  rw [List.mem_append]
  cases d
  · by_cases h : p.2 = v
    · simp [h]
      intro _
      exact eq_comm
    · simp [h]
  · by_cases h : p.1 = v
    · simp [h]
      intro _
      exact eq_comm
    · simp [h]
theorem lk_mem {v : Int} {k : Nat} {d : Bool} {w : Int} : ∀ {ps : List (Int × Int)} {i : Nat}, (k, d, w) ∈ lk v ps i ↔ i ≤ k ∧ Stp ps v (k - i) d w
  | [], i => by simp [lk, Stp]
  | p :: ps, i => by
    rw [lk, List.mem_append, lk1_mem, lk_mem]
    constructor
    · rintro (⟨rfl, h⟩ | ⟨h1, p', h2, h3⟩)
      · exact ⟨Nat.le_refl _, p, by rw [Nat.sub_self]; rfl, h⟩
      · refine ⟨by omega, p', ?_, h3⟩
        rw [show k - i = (k - (i + 1)) + 1 by omega]
        simpa using h2
    · rintro ⟨h1, p', h2, h3⟩
      by_cases e : k = i
      · subst e
        rw [Nat.sub_self] at h2
        have : p = p' := by simpa using h2
        subst this
        exact .inl ⟨rfl, h3⟩
      · right
        refine ⟨by omega, p', ?_, h3⟩
        rw [show k - i = (k - (i + 1)) + 1 by omega] at h2
        simpa using h2
theorem lk_mem0 {v : Int} {k : Nat} {d : Bool} {w : Int} {ps : List (Int × Int)} : (k, d, w) ∈ lk v ps 0 ↔ Stp ps v k d w := by
  rw [lk_mem]
  simp
theorem lk_len (v : Int) : ∀ (ps : List (Int × Int)) (i : Nat), (lk v ps i).length ≤ 2 * ps.length
  | [], i => Nat.zero_le _
  | p :: ps, i => by
    have h := lk_len v ps (i + 1)
    have h1 : (lk1 v i p).length ≤ 2 := by
      unfold lk1
      split <;> split <;> simp
    rw [lk, List.length_append, List.length_cons]
    omega
/-! the search: entries in the order of the queue -/
structure Ent where
  node : Int
  via : Option (Nat × Bool × Int)
structure Tre (arcs : List (Int × Int)) (R F : List Bool) (a : Nat) (s : Int) (L : List Ent) : Prop where
  head : L[0]? = some ⟨s, none⟩
  nd : (L.map Ent.node).Nodup
  via : ∀ (i : Nat) (e : Ent), 0 < i → L[i]? = some e → ∃ (j : Nat) (e' : Ent) (k : Nat) (d : Bool), j < i ∧ L[j]? = some e' ∧ e.via = some (k, d, e'.node) ∧ G arcs R F a e'.node k d e.node
def Cls' (arcs : List (Int × Int)) (R F : List Bool) (a : Nat) (L : List Ent) (p : Nat) : Prop := ∀ (i : Nat) (e : Ent), i < p → L[i]? = some e → ∀ k d v, G arcs R F a e.node k d v → v ∈ L.map Ent.node
section
variable {arcs : List (Int × Int)} {R F : List Bool} {a : Nat} {n s : Int} {L : List Ent}
theorem Tre.start : Tre arcs R F a s [⟨s, none⟩] := ⟨rfl, by simp, fun i e h q => by
  have := (List.getElem?_eq_some_iff.mp q).1
  simp at this
  omega⟩
theorem Tre.add (t : Tre arcs R F a s L) {j k : Nat} {e' : Ent} {d : Bool} {v : Int} (hj : L[j]? = some e') (g : G arcs R F a e'.node k d v) (nv : v ∉ L.map Ent.node) : Tre arcs R F a s (L ++ [⟨v, some (k, d, e'.node)⟩]) := by
  have hl : 0 < L.length := by
    have := (List.getElem?_eq_some_iff.mp t.head).1
    exact this
  have hjl : j < L.length := (List.getElem?_eq_some_iff.mp hj).1
  refine ⟨by rw [List.getElem?_append_left hl]; exact t.head, ?_, fun i e h q => ?_⟩
  · rw [List.map_append, List.nodup_append]
    refine ⟨t.nd, by simp, fun x hx y hy z => nv ?_⟩
    have : y = v := by simpa using hy
    rw [← this, ← z]
    exact hx
  · by_cases hi : i < L.length
    · rw [List.getElem?_append_left hi] at q
      obtain ⟨j', e2, k', d', h1, h2, h3, h4⟩ := t.via i e h q
      exact ⟨j', e2, k', d', h1, by rw [List.getElem?_append_left (by omega)]; exact h2, h3, h4⟩
    · have : i = L.length := by
        have := (List.getElem?_eq_some_iff.mp q).1
        simp at this
        omega
      subst this
      rw [List.getElem?_append_right (Nat.le_refl _), Nat.sub_self] at q
      have : e = ⟨v, some (k, d, e'.node)⟩ := by simpa using q.symm
      subst this
      exact ⟨j, e', k, d, hjl, by rw [List.getElem?_append_left hjl]; exact hj, rfl, g⟩
theorem Tre.rch (t : Tre arcs R F a s L) : ∀ (i : Nat) (e : Ent), L[i]? = some e → Rch arcs R F a s e.node := fun i => by
  induction i using Nat.strongRecOn with
  | _ i ih =>
    intro e q
    by_cases h : 0 < i
    · obtain ⟨j, e', k, d, h1, h2, h3, h4⟩ := t.via i e h q
      exact .step (ih j h1 e' h2) h4
    · have : i = 0 := by omega
      subst this
      rw [t.head] at q
      cases q
      exact .base
/-- the search has found just what is reached -/
theorem Tre.all (t : Tre arcs R F a s L) (c : Cls' arcs R F a L L.length) (v : Int) : v ∈ L.map Ent.node ↔ Rch arcs R F a s v := by
  constructor
  · intro h
    obtain ⟨e, h1, rfl⟩ := List.mem_map.mp h
    obtain ⟨i, h2⟩ := List.getElem?_of_mem h1
    exact t.rch i e h2
  · intro r
    refine r.sub (fun v => v ∈ L.map Ent.node) ?_ fun u k d v hu g => ?_
    · exact List.mem_map.mpr ⟨_, List.mem_of_getElem? t.head, rfl⟩
    · obtain ⟨e, h1, rfl⟩ := List.mem_map.mp hu
      obtain ⟨i, h2⟩ := List.getElem?_of_mem h1
      exact c i e (List.getElem?_eq_some_iff.mp h2).1 h2 k d v g
theorem nodup_leN : ∀ (m : Nat) {xs : List Int}, xs.Nodup → (∀ x ∈ xs, 0 ≤ x ∧ x < m) → xs.length ≤ m
  | 0, xs, _, h => by
    cases xs with
    | nil => exact Nat.le_refl _
    | cons x xs =>
      have := h x (List.mem_cons_self ..)
      omega
  | m + 1, xs, nd, h => by
    have h1 := nodup_leN m (xs := xs.erase (m : Int)) (nd.erase _) fun x hx => by
      obtain ⟨h2, h3⟩ := (nd.mem_erase_iff).mp hx
      have := h x h3
      omega
    rw [List.length_erase] at h1
    split at h1 <;> omega
theorem nodup_le {n : Int} {xs : List Int} (nd : xs.Nodup) (h : ∀ x ∈ xs, 0 ≤ x ∧ x < n) : (xs.length : Int) ≤ max n 0 := by
  have := nodup_leN n.toNat nd fun x hx => by
    have := h x hx
    omega
  omega
theorem Tre.len (t : Tre arcs R F a s L) (h : ∀ p ∈ arcs, AOk n p) (hs : 0 ≤ s ∧ s < n) : (L.length : Int) ≤ n := by
  have h1 := nodup_le (n := n) t.nd fun x hx => by
    obtain ⟨e, h1, rfl⟩ := List.mem_map.mp hx
    obtain ⟨i, h2⟩ := List.getElem?_of_mem h1
    exact (t.rch i e h2).rng h hs
  rw [List.length_map] at h1
  omega
end
end Sx

set_option Elab.async false
set_option linter.all false
set_option maxRecDepth 100000
set_option maxHeartbeats 4000000
namespace Sx
open PySem L2
abbrev nD (n : Int) (arcs : List (Int × Int)) : D := netD n (arcs.map encA)
abbrev bD (bs : List Bool) : D := .lst (bs.map .bl)
def dirI (d : Bool) : Int := if d = true then 1 else -1
@[simp] theorem dirI_t : dirI true = 1 := rfl
@[simp] theorem dirI_f : dirI false = -1 := rfl
def encL (t : Nat × Bool × Int) : D := .tup [.int t.1, .int (dirI t.2.1), .int t.2.2]
def mayB (R F : List Bool) (k : Nat) (d : Bool) : Bool := if d = true then R.getD k false else F.getD k false
theorem mayB_iff {R F : List Bool} {k : Nat} {d : Bool} : mayB R F k d = true ↔ May R F k d := by
  unfold mayB May
  cases d <;> simp [List.getD_eq_getElem?_getD] <;> (constructor <;> intro h)
  · cases e : F[k]? with
    | none => rw [e] at h; cases h
    | some b => rw [e] at h; simp at h; rw [h]
  · rw [h]; rfl
  · cases e : R[k]? with
    | none => rw [e] at h; cases h
    | some b => rw [e] at h; simp at h; rw [h]
  · rw [h]; rfl
theorem atE {α : Type} {f : α → D} {xs : List α} {k : Nat} {x : α} (h : xs[k]? = some x) : atI (xs.map f) (k : Int) = some (f x) := by
  rw [atI_map, atI_nat, h]
  rfl
theorem atB {bs : List Bool} {k : Nat} (h : k < bs.length) : atI (bs.map D.bl) (k : Int) = some (.bl (bs.getD k false)) := by
  rw [atE (x := bs.getD k false)]
  rw [List.getD_eq_getElem?_getD, List.getElem?_eq_getElem h]
  rfl
@[simp] theorem arc_tup (n : Int) (as : List D) : fldD "Net" "arcs" (netD n as) = some (.tup as) := by
  simp [netD, atK, ne_na, fldD]
@[simp] theorem arc_nodes (n : Int) (as : List D) : fldD "Net" "nodes" (netD n as) = some (.int n) := by
  simp [netD, atK, fldD]
@[simp] theorem at2_0 {α : Type} (x y : α) : atI [x, y] 0 = some x := rfl
@[simp] theorem at2_1 {α : Type} (x y : α) : atI [x, y] 1 = some y := rfl
@[simp] theorem at3_0 {α : Type} (x y z : α) : atI [x, y, z] 0 = some x := rfl
@[simp] theorem at3_1 {α : Type} (x y z : α) : atI [x, y, z] 1 = some y := rfl
@[simp] theorem at3_2 {α : Type} (x y z : α) : atI [x, y, z] 2 = some z := rfl
section
variable {n : Int} {arcs : List (Int × Int)} {R F : List Bool}
theorem may_ok (hR : R.length = arcs.length) (hF : F.length = arcs.length) {k : Nat} (hk : k < arcs.length) (d : Bool) : m__may_go [nD n arcs, bD R, bD F, .int k, .int (dirI d)] = some (.bl (mayB R F k d)) := by
  unfold m__may_go callM b__may_go
  have h1 : (k : Int) < arcs.length := by omega
  have h2 := atB (bs := R) (k := k) (by omega)
  have h3 := atB (bs := F) (k := k) (by omega)
  cases d
  · simp [hk, h3, mayB]
  · cases e : R.getD k false <;> simp [hk, h2, mayB, e] <;> simp [e] at *
    all_goals (try simp_all)
theorem ends_ok {k : Nat} {p : Int × Int} (hp : arcs[k]? = some p) (d : Bool) : m_ends_of [nD n arcs, .int k, .int (dirI d)] = some (.tup [.int (if d = true then p.1 else p.2), .int (if d = true then p.2 else p.1)]) := by
  unfold m_ends_of callM b_ends_of
  have h1 := atE (f := encA) hp
  cases d <;> simp [h1, encA]
theorem check_ok (hR : R.length = arcs.length) (hF : F.length = arcs.length) {a : Nat} (ha : a < arcs.length) : m__check_painting [nD n arcs, bD R, bD F, .int a] = some .non := by
  unfold m__check_painting callM b__check_painting
  have h1 : (a : Int) < arcs.length := by omega
  simp [hR, hF, ha]
end
/-! links_of -/
def lkD (n : Int) (arcs : List (Int × Int)) : List (List D) := (List.range n.toNat).map fun (v : Nat) => (lk (v : Int) arcs 0).map encL
theorem set_rng {α : Type} {m t : Nat} (f g : Nat → α) (ht : t < m) (h : ∀ v, v ≠ t → g v = f v) : ((List.range m).map f).set t (g t) = (List.range m).map g := by
  refine List.ext_getElem? fun i => ?_
  by_cases e : t = i
  · subst e
    rw [List.getElem?_set_self (by simpa using ht), List.getElem?_map, List.getElem?_range ht]
    rfl
  · rw [List.getElem?_set_ne e, List.getElem?_map, List.getElem?_map]
    cases q : (List.range m)[i]? with
    | none => rfl
    | some v =>
      have : v = i := by
        have hi := (List.getElem?_eq_some_iff.mp q).1
        rw [List.length_range] at hi
        rw [List.getElem?_range hi] at q
        exact (Option.some.inj q).symm
      subst this
      show some (f v) = some (g v)
      rw [h v fun z => e z.symm]
theorem ixN_nat {l t : Nat} (h : t < l) : ixN l (t : Int) = some t := by
  unfold ixN
  rw [if_pos (by omega), if_pos (by omega)]
  simp
def lkA (arcs : List (Int × Int)) (j : Nat) (p : Int × Int) (v : Nat) : List D := (lk (v : Int) (arcs.take j) 0).map encL ++ (if p.1 = (v : Int) then [encL (j, true, p.2)] else [])
theorem links_ok {n : Int} {arcs : List (Int × Int)} (hn : 1 ≤ n ∧ n ≤ 400) (hl : arcs.length ≤ 1000) (ha : ∀ p ∈ arcs, AOk n p) : m_links_of [nD n arcs] = some (.lst ((lkD n arcs).map .lst)) := by
  unfold m_links_of callM b_links_of
  have rg : rg1 (.int n) = some (rangeD 0 n.toNat) := by simp [show n ≤ 100000 by omega, show -100000 ≤ n by omega]
  generalize hmb : (mSeq (mLLApp 1 (mVar 4) _) _) = mb
  obtain ⟨E', g1, g2⟩ := runFor_inv (mg := gTupM 2 (gsCons (gM 2) (gsCons (gTupM 2 (gsCons (gM 4) (gsCons (gM 5) gsNil))) gsNil))) (mb := mb)
    (fun j E => ∃ x y z w, E = [.fz (nD n arcs), .rt (.rf 6), x, y, z, w, .nd (.ll ((List.range n.toNat).map fun (v : Nat) => (lk (v : Int) (arcs.take j) 0).map encL))]) (enumD 0 (arcs.map encA)) 0 [.fz (nD n arcs), .rt (.rf 6), .un, .un, .un, .un, .nd (.ll (List.replicate n.toNat []))]
    ⟨_, _, _, _, by rw [List.take_zero]; congr; refine List.ext_getElem? fun i => ?_; by_cases hi : i < n.toNat
                    · rw [List.getElem?_replicate, if_pos hi, List.getElem?_map, List.getElem?_range hi]; rfl
                    · rw [List.getElem?_replicate, if_neg hi, List.getElem?_eq_none (by simpa using hi)]⟩
    (fun j d E hd hI => by
      simp only [Nat.zero_add] at hI ⊢
      obtain ⟨x, y, z, w, rfl⟩ := hI
      rw [enumD_get] at hd
      obtain ⟨dd, hdd, rfl⟩ := map_some hd
      obtain ⟨p, rfl, hp⟩ := map_at hdd
      obtain ⟨o1, o2, o3⟩ := ha p (List.mem_of_getElem? hp)
      obtain ⟨t, ht⟩ : ∃ t : Nat, p.1 = t := ⟨p.1.toNat, by omega⟩
      obtain ⟨h, hh⟩ : ∃ h : Nat, p.2 = h := ⟨p.2.toNat, by omega⟩
      have ht' : t < n.toNat := by omega
      have hh' : h < n.toNat := by omega
      have hj : j < arcs.length := (List.getElem?_eq_some_iff.mp hp).1
      have htk : arcs.take (j + 1) = arcs.take j ++ [p] := by
        rw [List.take_add_one, hp]
        rfl
      have hlj : (arcs.take j).length = j := by rw [List.length_take]; omega
      have b1 : ∀ v : Nat, ((lk (v : Int) (arcs.take j) 0).map encL).length < 100000 := fun v => by
        have := lk_len (v : Int) (arcs.take j) 0
        rw [List.length_map]
        omega
      have b2 : ∀ v : Nat, (lkA arcs j p v).length < 100000 := fun v => by
        have := lk_len (v : Int) (arcs.take j) 0
        unfold lkA
        rw [List.length_append, List.length_map]
        split <;> simp <;> omega
      have s1 : ((List.range n.toNat).map fun (v : Nat) => (lk (v : Int) (arcs.take j) 0).map encL).set t ((lk (t : Int) (arcs.take j) 0).map encL ++ [.tup [.int j, .int 1, .int h]]) = (List.range n.toNat).map (lkA arcs j p) := by
        rw [← set_rng (fun (v : Nat) => (lk (v : Int) (arcs.take j) 0).map encL) (lkA arcs j p) ht' fun v hv => ?_]
        · unfold lkA
          rw [if_pos ht, hh]
          rfl
        · unfold lkA
          rw [if_neg (by omega), List.append_nil]
      have s2 : ((List.range n.toNat).map (lkA arcs j p)).set h (lkA arcs j p h ++ [.tup [.int j, .int (-1), .int t]]) = (List.range n.toNat).map fun (v : Nat) => (lk (v : Int) (arcs.take (j + 1)) 0).map encL := by
        rw [← set_rng (lkA arcs j p) (fun (v : Nat) => (lk (v : Int) (arcs.take (j + 1)) 0).map encL) hh' fun v hv => ?_]
        · congr 1
          rw [htk, lk_snoc, hlj, Nat.zero_add]
          unfold lkA lk1
          have hne : ¬ p.1 = (h : Int) := by omega
          rw [if_pos hh, if_neg hne, if_neg hne, ht]
          simp [encL]
        · rw [htk, lk_snoc, hlj, Nat.zero_add]
          unfold lkA lk1
          have hne : ¬ p.2 = (v : Int) := by omega
          rw [if_neg hne, List.append_nil]
          by_cases e : p.1 = (v : Int)
          · rw [if_pos e, if_pos e, List.map_append]
            rfl
          · rw [if_neg e, if_neg e, List.append_nil]
            simp
      refine ⟨_, _, rfl, .inl ?_, .fz (.int j), y, .fz (.int t), .fz (.int h), rfl⟩
      subst hmb
      have i1 : ixN ((List.range n.toNat).map fun (v : Nat) => (lk (v : Int) (arcs.take j) 0).map encL).length (t : Int) = some t := ixN_nat (by simpa using ht')
      have i2 : ixN ((List.range n.toNat).map (lkA arcs j p)).length (h : Int) = some h := ixN_nat (by simpa using hh')
      have q1 : ((List.range n.toNat).map fun (v : Nat) => (lk (v : Int) (arcs.take j) 0).map encL)[t]? = some ((lk (t : Int) (arcs.take j) 0).map encL) := by
        rw [List.getElem?_map, List.getElem?_range ht']
        rfl
      have q2 : ((List.range n.toNat).map (lkA arcs j p))[h]? = some (lkA arcs j p h) := by
        rw [List.getElem?_map, List.getElem?_range hh']
        rfl
      generalize ((List.range n.toNat).map fun (v : Nat) => (lk (v : Int) (arcs.take j) 0).map encL) = A0 at *
      generalize ((List.range n.toNat).map (lkA arcs j p)) = A1 at *
      have b1t := b1 t
      have b2h := b2 h
      generalize (lk (t : Int) (arcs.take j) 0).map encL = l1 at *
      generalize lkA arcs j p h = l2 at *
      simp [encA, ht, hh, i1, q1, b1t, s1, i2, q2, b2h, s2])
  rw [Nat.zero_add, enumD_len, List.length_map, List.take_length] at g2
  obtain ⟨x, y, z, w, rfl⟩ := g2
  have hrl : (rangeD 0 n.toNat).length = n.toNat := rangeD_len ..
  have hz : n.toNat ≤ 100000 := by omega
  have n1 : n ≤ 100000 := by omega
  have n2 : -100000 ≤ n := by omega
  simp [n1, n2, hrl, hz, g1]
  unfold lkD
  rw [List.map_map]
end Sx

set_option Elab.async false
set_option linter.all false
set_option maxRecDepth 100000
set_option maxHeartbeats 4000000
namespace Sx
open PySem L2
def encV : Option (Nat × Bool × Int) → D
  | none => .non
  | some (k, d, u) => .tup [.int k, .int (dirI d), .int u]
def keysL (L : List Ent) : List Key := L.map fun e => Sum.inl e.node
def valsL (L : List Ent) : List D := L.map fun e => encV e.via
def nodesD (L : List Ent) : List D := L.map fun e => .int e.node
section
variable {κ α : Type} [DecidableEq κ] {k : κ} {ks : List κ} {xs : List α} {y : α}
theorem memK_iff : memK k ks = true ↔ k ∈ ks := by
  unfold memK
  exact decide_eq_true_iff
theorem putKey_not (h : k ∉ ks) : putKey ks k = ks ++ [k] := by
  unfold putKey
  rw [if_neg h]
theorem putVal_not (h : k ∉ ks) : putVal ks xs k y = xs ++ [y] := by
  unfold putVal
  rw [if_neg h]
end
theorem keyL_mem (v : Int) (L : List Ent) : (Sum.inl v : Key) ∈ keysL L ↔ v ∈ L.map Ent.node := by
  unfold keysL
  constructor
  · intro h
    obtain ⟨e, h1, h2⟩ := List.mem_map.mp h
    cases h2
    exact List.mem_map.mpr ⟨e, h1, rfl⟩
  · intro h
    obtain ⟨e, h1, h2⟩ := List.mem_map.mp h
    exact List.mem_map.mpr ⟨e, h1, by rw [h2]⟩
theorem memL (v : Int) (L : List Ent) : memK (Sum.inl v : Key) (keysL L) = decide (v ∈ L.map Ent.node) := by
  rw [Bool.eq_iff_iff, decide_eq_true_iff, memK_iff]
  exact keyL_mem v L
theorem putKey_new {L : List Ent} {e : Ent} (h : e.node ∉ L.map Ent.node) : putKey (keysL L) (Sum.inl e.node : Key) = keysL (L ++ [e]) := by
  rw [putKey_not fun z => h ((keyL_mem _ _).mp z)]
  unfold keysL
  rw [List.map_append]
  rfl
theorem putVal_new {L : List Ent} {e : Ent} (h : e.node ∉ L.map Ent.node) : putVal (keysL L) ((valsL L).map R.fz) (Sum.inl e.node : Key) (R.fz (encV e.via)) = (valsL (L ++ [e])).map R.fz := by
  rw [putVal_not fun z => h ((keyL_mem _ _).mp z)]
  unfold valsL
  rw [List.map_append, List.map_append]
  rfl
theorem nodesD_app (L : List Ent) (e : Ent) : nodesD L ++ [.int e.node] = nodesD (L ++ [e]) := by
  unfold nodesD
  rw [List.map_append]
  rfl
@[simp] theorem keysL_len (L : List Ent) : (keysL L).length = L.length := List.length_map ..
@[simp] theorem valsL_len (L : List Ent) : (valsL L).length = L.length := List.length_map ..
@[simp] theorem nodesD_len (L : List Ent) : (nodesD L).length = L.length := List.length_map ..
section
variable {n : Int} {arcs : List (Int × Int)} {R F : List Bool} {a : Nat} {s : Int}
def eS (n : Int) (arcs : List (Int × Int)) (R F : List Bool) (a : Nat) (s : Int) (L : List Ent) (p : Nat) (x y z w : Sl) : En :=
  [.fz (nD n arcs), .fz (bD R), .fz (bD F), .fz (.int a), .fz (.lst ((lkD n arcs).map .lst)), .fz (.int s), .rt (.rf 13), .ow (nodesD L), .fz (.int p), x, y, z, w, .nd (.dct (keysL L) ((valsL L).map .fz))]
def Goal (arcs : List (Int × Int)) (R F : List Bool) (a : Nat) (u : Int) (ts : List (Nat × Bool × Int)) (L : List Ent) : Prop := ∀ t ∈ ts, G arcs R F a u t.1 t.2.1 t.2.2 → t.2.2 ∈ L.map Ent.node
theorem steps_ok (hn : 1 ≤ n ∧ n ≤ 400) (hl : arcs.length ≤ 1000) (ha : ∀ p ∈ arcs, AOk n p) (hR : R.length = arcs.length) (hF : F.length = arcs.length) {q : Int × Int} (hq : arcs[a]? = some q) :
    ∃ L : List Ent, m__steps_from [nD n arcs, bD R, bD F, .int a] = some (.dct (keysL L) (valsL L)) ∧ Tre arcs R F a q.2 L ∧ Cls' arcs R F a L L.length := by
  have hs : 0 ≤ q.2 ∧ q.2 < n := (ha q (List.mem_of_getElem? hq)).2.2
  unfold m__steps_from callM b__steps_from
  generalize hmb : (mIfS _ (mSeq (mDPut 6 _ _) _) mNext) = mb
  /- the links of one node -/
  have inner : ∀ (u : Int) (p : Nat) (L : List Ent) (e : Ent), Tre arcs R F a q.2 L → Cls' arcs R F a L p → L[p]? = some e → e.node = u → ∀ y z w, ∃ (M : List Ent) (y' z' w' : Sl), runFor (gTupM 3 (gsCons (gM 10) (gsCons (gM 11) (gsCons (gM 12) gsNil)))) mb ((lk u arcs 0).map encL) (eS n arcs R F a q.2 L (p + 1) (.fz (.int u)) y z w) = some (.nx (eS n arcs R F a q.2 (L ++ M) (p + 1) (.fz (.int u)) y' z' w')) ∧ Tre arcs R F a q.2 (L ++ M) ∧ Cls' arcs R F a (L ++ M) (p + 1) := by
    intro u p L e tL cL hp hu y z w
    obtain ⟨E', g1, M, y', z', w', rfl, g2, g3⟩ := runFor_inv (mg := gTupM 3 (gsCons (gM 10) (gsCons (gM 11) (gsCons (gM 12) gsNil)))) (mb := mb)
      (fun j E => ∃ (M : List Ent) (y z w : Sl), E = eS n arcs R F a q.2 (L ++ M) (p + 1) (.fz (.int u)) y z w ∧ Tre arcs R F a q.2 (L ++ M) ∧ Goal arcs R F a u ((lk u arcs 0).take j) (L ++ M))
      ((lk u arcs 0).map encL) 0 (eS n arcs R F a q.2 L (p + 1) (.fz (.int u)) y z w) ⟨[], y, z, w, by rw [List.append_nil], by rw [List.append_nil]; exact tL, fun t ht => by rw [List.take_zero] at ht; cases ht⟩
      (fun j d E hd hI => by
        simp only [Nat.zero_add] at hI ⊢
        obtain ⟨M, y, z, w, rfl, tM, gM'⟩ := hI
        obtain ⟨⟨k, d, v⟩, rfl, ht⟩ := map_at hd
        have hst : Stp arcs u k d v := lk_mem0.mp (List.mem_of_getElem? ht)
        have hk : k < arcs.length := by
          obtain ⟨pp, h1, _⟩ := hst
          exact (List.getElem?_eq_some_iff.mp h1).1
        have hm := may_ok (n := n) hR hF hk d
        have hML := memL v (L ++ M)
        have lenM : ((L ++ M).length : Int) ≤ n := tM.len ha hs
        have hpM : (L ++ M)[p]? = some e := by
          rw [List.getElem?_append_left (List.getElem?_eq_some_iff.mp hp).1]
          exact hp
        have tk : (lk u arcs 0).take (j + 1) = (lk u arcs 0).take j ++ [(k, d, v)] := by
          rw [List.take_add_one, ht]
          rfl
        by_cases c1 : k = a
        · refine ⟨_, eS n arcs R F a q.2 (L ++ M) (p + 1) (.fz (.int u)) (.fz (.int k)) (.fz (.int (dirI d))) (.fz (.int v)), rfl, .inl ?_, M, _, _, _, rfl, tM, ?_⟩
          · subst hmb
            simp [encL, eS, c1]
          · intro t h1 h2
            rw [tk] at h1
            rcases List.mem_append.mp h1 with h1 | h1
            · exact gM' t h1 h2
            · have := List.mem_singleton.mp h1
              subst this
              exact absurd c1 h2.1
        · have c1' : ¬ ((k : Int) = (a : Int)) := by omega
          by_cases c2 : v ∈ (L ++ M).map Ent.node
          · have c2' : memK (Sum.inl v : Key) (keysL (L ++ M)) = true := by rw [hML]; exact decide_eq_true c2
            refine ⟨_, eS n arcs R F a q.2 (L ++ M) (p + 1) (.fz (.int u)) (.fz (.int k)) (.fz (.int (dirI d))) (.fz (.int v)), rfl, .inl ?_, M, _, _, _, rfl, tM, ?_⟩
            · subst hmb
              simp [encL, eS, c1, c2', closeds_fz]
            · intro t h1 h2
              rw [tk] at h1
              rcases List.mem_append.mp h1 with h1 | h1
              · exact gM' t h1 h2
              · have := List.mem_singleton.mp h1
                subst this
                exact c2
          · have c2' : memK (Sum.inl v : Key) (keysL (L ++ M)) = false := by rw [hML]; exact decide_eq_false c2
            by_cases c3 : mayB R F k d = true
            · have hg : G arcs R F a e.node k d v := ⟨c1, by rw [hu]; exact hst, mayB_iff.mp c3⟩
              have tN := tM.add hpM hg c2
              have l1 := putKey_new (L := L ++ M) (e := ⟨v, some (k, d, e.node)⟩) c2
              have l2 := putVal_new (L := L ++ M) (e := ⟨v, some (k, d, e.node)⟩) c2
              have l3 := nodesD_app (L ++ M) ⟨v, some (k, d, e.node)⟩
              rw [c3] at hm
              have lt : (L ++ M).length < 100000 := by omega
              rw [hu] at l1 l2 l3 tN
              refine ⟨_, eS n arcs R F a q.2 (L ++ M ++ [⟨v, some (k, d, u)⟩]) (p + 1) (.fz (.int u)) (.fz (.int k)) (.fz (.int (dirI d))) (.fz (.int v)), rfl, .inl ?_, M ++ [⟨v, some (k, d, u)⟩], .fz (.int k), .fz (.int (dirI d)), .fz (.int v), by rw [List.append_assoc], by rw [← List.append_assoc]; exact tN, ?_⟩
              · subst hmb
                generalize hLM : L ++ M = LM at *
                simp [encV] at l1 l2 l3
                simp [encL, eS, c1, c1', c2', closeds_fz, hm, lt, l1, l2, l3]
              · intro t h1 h2
                rw [← List.append_assoc, List.map_append, List.mem_append]
                rw [tk] at h1
                rcases List.mem_append.mp h1 with h1 | h1
                · exact .inl (gM' t h1 h2)
                · have := List.mem_singleton.mp h1
                  subst this
                  exact .inr (List.mem_singleton.mpr rfl)
            · have c3' : mayB R F k d = false := by simpa using c3
              rw [c3'] at hm
              refine ⟨_, eS n arcs R F a q.2 (L ++ M) (p + 1) (.fz (.int u)) (.fz (.int k)) (.fz (.int (dirI d))) (.fz (.int v)), rfl, .inl ?_, M, _, _, _, rfl, tM, ?_⟩
              · subst hmb
                simp [encL, eS, c1, c2', closeds_fz, hm]
              · intro t h1 h2
                rw [tk] at h1
                rcases List.mem_append.mp h1 with h1 | h1
                · exact gM' t h1 h2
                · have := List.mem_singleton.mp h1
                  subst this
                  exact absurd (mayB_iff.mpr h2.2.2) c3)
    refine ⟨M, y', z', w', g1, g2, fun i e' hi he' k d v hg => ?_⟩
    rw [Nat.zero_add, List.length_map, List.take_length] at g3
    have hLl : p < L.length := (List.getElem?_eq_some_iff.mp hp).1
    by_cases hip : i < p
    · rw [List.getElem?_append_left (by omega)] at he'
      rw [List.map_append, List.mem_append]
      exact .inl (cL i e' hip he' k d v hg)
    · have : i = p := by omega
      subst this
      rw [List.getElem?_append_left hLl, hp] at he'
      cases he'
      rw [hu] at hg
      exact g3 (k, d, v) (lk_mem0.mpr hg.2.1) hg
  generalize hmf : (mSeq (mSet 9 _) _) = mf
  generalize hmc : (fun E : En => ((mBin (intOp fun i j => D.bl (decide (i < j))) (mVarT 8) (mUn lenD (mVarT 7))) E).bind blOf) = mc
  /- the queue -/
  have outer : ∀ (m : Nat) (L : List Ent) (p : Nat) (x y z w : Sl), Tre arcs R F a q.2 L → Cls' arcs R F a L p → p ≤ L.length → n.toNat < p + m → ∃ (L' : List Ent) (x' y' z' w' : Sl), runWhile mc mf m (eS n arcs R F a q.2 L p x y z w) = some (.nx (eS n arcs R F a q.2 L' L'.length x' y' z' w')) ∧ Tre arcs R F a q.2 L' ∧ Cls' arcs R F a L' L'.length := by
    intro m
    induction m with
    | zero =>
      intro L p x y z w tL cL hp hm
      have := tL.len ha hs
      omega
    | succ m ih =>
      intro L p x y z w tL cL hp hm
      rw [runWhile]
      have hmcE : mc (eS n arcs R F a q.2 L p x y z w) = some (decide ((p : Int) < L.length)) := by
        subst hmc
        simp [eS]
      rw [hmcE]
      by_cases hlt : p < L.length
      · obtain ⟨e, he⟩ : ∃ e, L[p]? = some e := ⟨_, List.getElem?_eq_getElem hlt⟩
        obtain ⟨M, y', z', w', g1, g2, g3⟩ := inner e.node p L e tL cL he rfl y z w
        obtain ⟨L', x2, y2, z2, w2, g4, g5, g6⟩ := ih (L ++ M) (p + 1) (.fz (.int e.node)) y' z' w' g2 g3 (by rw [List.length_append]; omega) (by omega)
        refine ⟨L', x2, y2, z2, w2, ?_, g5, g6⟩
        have rg := (tL.rch p e he).rng ha hs
        obtain ⟨t, ht⟩ : ∃ t : Nat, e.node = t := ⟨e.node.toNat, by omega⟩
        have hix : atI (nodesD L) (p : Int) = some (.int e.node) := by
          unfold nodesD
          exact atE (f := fun e : Ent => D.int e.node) he
        have hlk : atI ((lkD n arcs).map D.lst) e.node = some (.lst ((lk e.node arcs 0).map encL)) := by
          rw [ht]
          refine atE (f := D.lst) (x := (lk (t : Int) arcs 0).map encL) ?_
          unfold lkD
          rw [List.getElem?_map, List.getElem?_range (by omega)]
          rfl
        have step : mf (eS n arcs R F a q.2 L p x y z w) = some (.nx (eS n arcs R F a q.2 (L ++ M) (p + 1) (.fz (.int e.node)) y' z' w')) := by
          subst hmf
          unfold eS at g1 ⊢
          have e1 : ((p : Int) + 1) = ((p + 1 : Nat) : Int) := by omega
          simp at g1
          simp [hix, hlk]
          exact g1
        have hc : decide ((p : Int) < L.length) = true := decide_eq_true (by omega)
        rw [hc]
        show (mf _).bind _ = _
        rw [step]
        exact g4
      · have : p = L.length := by omega
        subst this
        refine ⟨L, x, y, z, w, ?_, tL, cL⟩
        have hc : decide ((L.length : Int) < L.length) = false := decide_eq_false (by omega)
        rw [hc]
        rfl
  have tS : Tre arcs R F a q.2 [⟨q.2, none⟩] := Tre.start
  obtain ⟨L', x', y', z', w', g4, g5, g6⟩ := outer 1000000 [⟨q.2, none⟩] 0 .un .un .un .un tS (fun i e h => by omega) (by simp) (by omega)
  refine ⟨L', ?_, g5, g6⟩
  have hlo := links_ok hn hl ha
  have h1 := atE (f := encA) hq
  show run (mSeq _ _ _) = _
  refine mat_nx [.fz (nD n arcs), .fz (bD R), .fz (bD F), .fz (.int a), .fz (.lst ((lkD n arcs).map .lst)), .un, .un, .un, .un, .un, .un, .un, .un, .un] (by simp [hlo]) ?_
  refine mat_nx [.fz (nD n arcs), .fz (bD R), .fz (bD F), .fz (.int a), .fz (.lst ((lkD n arcs).map .lst)), .fz (.int q.2), .un, .un, .un, .un, .un, .un, .un, .un] (by simp [h1, encA]) ?_
  refine mat_nx [.fz (nD n arcs), .fz (bD R), .fz (bD F), .fz (.int a), .fz (.lst ((lkD n arcs).map .lst)), .fz (.int q.2), .rt (.rf 13), .un, .un, .un, .un, .un, .un, .nd (.dct [Sum.inl q.2] [.fz .non])] (by simp) ?_
  refine mat_nx [.fz (nD n arcs), .fz (bD R), .fz (bD F), .fz (.int a), .fz (.lst ((lkD n arcs).map .lst)), .fz (.int q.2), .rt (.rf 13), .ow [.int q.2], .un, .un, .un, .un, .un, .nd (.dct [Sum.inl q.2] [.fz .non])] (by simp) ?_
  refine mat_nx (eS n arcs R F a q.2 [⟨q.2, none⟩] 0 .un .un .un .un) (by simp [eS, keysL, valsL, nodesD, encV]) ?_
  refine mat_nx _ g4 ?_
  simp [run, eS, closeds_fz]
end
end Sx

set_option Elab.async false
set_option linter.all false
set_option maxRecDepth 100000
set_option maxHeartbeats 4000000
namespace Sx
open PySem L2
def encP (t : Nat × Bool) : D := .tup [.int t.1, .int (dirI t.2)]
theorem atL : ∀ {L : List Ent} {i : Nat} {e : Ent}, L[i]? = some e → (L.map Ent.node).Nodup → atK (keysL L) (valsL L) (Sum.inl e.node : Key) = some (encV e.via)
  | [], i, e, h, _ => by simp at h
  | e0 :: L, 0, e, h, _ => by
    have : e0 = e := by simpa using h
    subst this
    show (if _ then _ else _) = _
    rw [if_pos rfl]
  | e0 :: L, i + 1, e, h, nd => by
    have h' : L[i]? = some e := by simpa using h
    rw [List.map_cons, List.nodup_cons] at nd
    have hne : ¬ ((Sum.inl e0.node : Key) = Sum.inl e.node) := fun z => by
      have z' : e0.node = e.node := Sum.inl.inj z
      exact nd.1 (List.mem_map.mpr ⟨e, List.mem_of_getElem? h', z'.symm⟩)
    show (if _ then _ else _) = _
    rw [if_neg hne]
    exact atL h' nd.2
theorem nodup_idx {α : Type} {xs : List α} (nd : xs.Nodup) {i j : Nat} {x : α} (h1 : xs[i]? = some x) (h2 : xs[j]? = some x) : i = j := by
  obtain ⟨a1, b1⟩ := List.getElem?_eq_some_iff.mp h1
  obtain ⟨a2, b2⟩ := List.getElem?_eq_some_iff.mp h2
  exact (List.getElem_inj nd).mp (b1.trans b2.symm)
def runT (o : Option Out) : Option (D × List D) := match o with
  | some (.tf d es) => some (d, es)
  | _ => none
theorem matT_nx {a b : En → Option Out} {E : En} {d : Option (D × List D)} (E1 : En) (h : a E = some (.nx E1)) (k : runT (b E1) = d) : runT (mSeq a b E) = d := by
  rw [seq_nx E1 h]
  exact k
section
variable {n : Int} {arcs : List (Int × Int)} {R F : List Bool} {a : Nat} {s : Int}
def eW (n : Int) (arcs : List (Int × Int)) (R F : List Bool) (a : Nat) (q : Int × Int) (L : List Ent) (v : Int) (way : List (Nat × Bool)) (x y : Sl) : En :=
  [.fz (nD n arcs), .fz (bD R), .fz (bD F), .fz (.int a), .fz (.dct (keysL L) (valsL L)), .ow (way.map encP), .fz (.int v), .fz (.int q.1), .fz (.int q.2), x, y]
theorem roc_ok (hn : 1 ≤ n ∧ n ≤ 400) (hl : arcs.length ≤ 1000) (ha : ∀ p ∈ arcs, AOk n p) (hR : R.length = arcs.length) (hF : F.length = arcs.length) {q : Int × Int} (hq : arcs[a]? = some q) :
    (Rch arcs R F a q.2 q.1 ∧ ∃ ps vs, Pth arcs R F a ps q.2 q.1 vs ∧ (q.2 :: vs).Nodup ∧ ps.length ≤ 400 ∧ mT_ring_or_cut [nD n arcs, bD R, bD F, .int a] = some (.str "ring", ((a, true) :: ps).map encP)) ∨
    (¬ Rch arcs R F a q.2 q.1 ∧ ∃ ns : List Int, ns.Nodup ∧ (∀ v, v ∈ ns ↔ Rch arcs R F a q.2 v) ∧ mT_ring_or_cut [nD n arcs, bD R, bD F, .int a] = some (.str "cut", (sortI ns).map .int)) := by
  obtain ⟨L, hst, tL, cL⟩ := steps_ok hn hl ha hR hF hq
  have hal : a < arcs.length := (List.getElem?_eq_some_iff.mp hq).1
  have hck := check_ok (n := n) hR hF hal
  have h1 := atE (f := encA) hq
  have hs : 0 ≤ q.2 ∧ q.2 < n := (ha q (List.mem_of_getElem? hq)).2.2
  have hLn := tL.len ha hs
  have hmem := tL.all cL
  have hK := memL q.1 L
  by_cases ht : q.1 ∈ L.map Ent.node
  · left
    refine ⟨(hmem q.1).mp ht, ?_⟩
    rw [decide_eq_true ht] at hK
    unfold mT_ring_or_cut callTF b_ring_or_cut
    generalize hmf : (mSeq (mAsg (gTupM 3 _) _) (mApp 5 _)) = mf
    generalize hmc : (fun E : En => ((mBin neD (mVarT 6) (mVarT 8)) E).bind blOf) = mc
    have walk : ∀ (i : Nat) (e : Ent), L[i]? = some e → ∃ ps vs, Pth arcs R F a ps q.2 e.node vs ∧ (q.2 :: vs).Nodup ∧ (∀ v ∈ q.2 :: vs, ∃ t e', t ≤ i ∧ L[t]? = some e' ∧ e'.node = v) ∧ ps.length ≤ i ∧
        ∀ (m : Nat) (way : List (Nat × Bool)) (x y : Sl), i < m → way.length + i ≤ 1000 → ∃ x' y', runWhile mc mf m (eW n arcs R F a q L e.node way x y) = some (.nx (eW n arcs R F a q L q.2 (way ++ ps.reverse) x' y')) := fun i => by
      induction i using Nat.strongRecOn with
      | _ i ih =>
        intro e he
        by_cases hi : 0 < i
        · obtain ⟨j, e', k, d, hj, he', hv, hg⟩ := tL.via i e hi he
          obtain ⟨ps, vs, p1, p2, p3, p4, p5⟩ := ih j hj e' he'
          have fresh : ∀ v ∈ q.2 :: vs, v ≠ e.node := fun v hv' z => by
            obtain ⟨t, e2, t1, t2, t3⟩ := p3 v hv'
            have := nodup_idx tL.nd (i := t) (j := i) (x := e.node) (by rw [List.getElem?_map, t2]; show some e2.node = _; rw [t3, z]) (by rw [List.getElem?_map, he]; rfl)
            omega
          refine ⟨ps ++ [(k, d)], vs ++ [e.node], p1.snoc hg, ?_, fun v hv' => ?_, by rw [List.length_append]; simp; omega, fun m way x y hm hw => ?_⟩
          · rw [← List.cons_append, List.nodup_append]
            exact ⟨p2, by simp, fun x hx y hy z => fresh x hx (by rw [z, List.mem_singleton.mp hy])⟩
          · rw [← List.cons_append] at hv'
            rcases List.mem_append.mp hv' with h | h
            · obtain ⟨t, e2, t1, t2, t3⟩ := p3 v h
              exact ⟨t, e2, by omega, t2, t3⟩
            · exact ⟨i, e, Nat.le_refl _, he, (List.mem_singleton.mp h).symm⟩
          · cases m with
            | zero => omega
            | succ m =>
              obtain ⟨x', y', g⟩ := p5 m (way ++ [(k, d)]) (.fz (.int k)) (.fz (.int (dirI d))) (by omega) (by rw [List.length_append]; simp; omega)
              refine ⟨x', y', ?_⟩
              rw [runWhile]
              have ne : ¬ e.node = q.2 := fun z => fresh q.2 (List.mem_cons_self ..) z.symm
              have c : mc (eW n arcs R F a q L e.node way x y) = some true := by
                subst hmc
                simp [eW, ne]
              have hat := atL he tL.nd
              rw [hv] at hat
              have hwl : way.length < 100000 := by omega
              have b : mf (eW n arcs R F a q L e.node way x y) = some (.nx (eW n arcs R F a q L e'.node (way ++ [(k, d)]) (.fz (.int k)) (.fz (.int (dirI d))))) := by
                subst hmf
                simp [eW, hat, encV, hwl, encP]
              rw [c]
              show (mf _).bind _ = _
              rw [b]
              show runWhile mc mf m _ = _
              rw [g, List.reverse_append, List.append_assoc]
              rfl
        · have : i = 0 := by omega
          subst this
          rw [tL.head] at he
          cases he
          refine ⟨[], [], .nil _, by simp, fun v hv => ⟨0, _, Nat.le_refl _, tL.head, ?_⟩, Nat.le_refl _, fun m way x y hm _ => ⟨x, y, ?_⟩⟩
          · exact (List.mem_singleton.mp hv).symm
          · cases m with
            | zero => omega
            | succ m =>
              rw [runWhile]
              have c : mc (eW n arcs R F a q L q.2 way x y) = some false := by
                subst hmc
                simp [eW]
              rw [c]
              simp
    obtain ⟨e, he, hee⟩ := List.mem_map.mp ht
    obtain ⟨i, hi⟩ := List.getElem?_of_mem he
    have hil : i < L.length := (List.getElem?_eq_some_iff.mp hi).1
    obtain ⟨ps, vs, p1, p2, p3, p4, p5⟩ := walk i e hi
    rw [hee] at p1 p5
    obtain ⟨x', y', g⟩ := p5 1000000 [] .un .un (by omega) (by simp; omega)
    refine ⟨ps, vs, p1, p2, by omega, ?_⟩
    have hlen : ps.length + 1 ≤ 100000 := by omega
    show runT (mSeq _ _ _) = _
    refine matT_nx [.fz (nD n arcs), .fz (bD R), .fz (bD F), .fz (.int a), .un, .un, .un, .un, .un, .un, .un] (by simp [hck]) ?_
    refine matT_nx [.fz (nD n arcs), .fz (bD R), .fz (bD F), .fz (.int a), .un, .un, .un, .fz (.int q.1), .fz (.int q.2), .un, .un] (by simp [h1, encA]) ?_
    refine matT_nx [.fz (nD n arcs), .fz (bD R), .fz (bD F), .fz (.int a), .fz (.dct (keysL L) (valsL L)), .un, .un, .fz (.int q.1), .fz (.int q.2), .un, .un] (by simp [hst]) ?_
    refine matT_nx [.fz (nD n arcs), .fz (bD R), .fz (bD F), .fz (.int a), .fz (.dct (keysL L) (valsL L)), .un, .un, .fz (.int q.1), .fz (.int q.2), .un, .un] (by simp [hK]) ?_
    refine matT_nx [.fz (nD n arcs), .fz (bD R), .fz (bD F), .fz (.int a), .fz (.dct (keysL L) (valsL L)), .ow [], .un, .fz (.int q.1), .fz (.int q.2), .un, .un] (by simp) ?_
    refine matT_nx (eW n arcs R F a q L q.1 [] .un .un) (by simp [eW]) ?_
    refine matT_nx _ g ?_
    simp [runT, eW, encP, hlen, Nat.add_comm 1]
  · right
    refine ⟨fun r => ht ((hmem q.1).mpr r), L.map Ent.node, tL.nd, hmem, ?_⟩
    rw [decide_eq_false ht] at hK
    unfold mT_ring_or_cut callTF b_ring_or_cut
    have hki : intKeys (keysL L) = some (L.map Ent.node) := by
      have := intKeys_map (L.map Ent.node)
      rw [List.map_map] at this
      exact this
    have hll : L.length ≤ 100000 := by omega
    simp [hck, h1, encA, hst, hK, hki, hll]
end
end Sx

set_option Elab.async false
set_option linter.all false
set_option maxRecDepth 100000
set_option maxHeartbeats 4000000
namespace Sx
open PySem L2
def rngD (n : Int) (f : Nat → List Int) : List (List D) := (List.range n.toNat).map fun v => (f v).map .int
def pD (R F : List Bool) : D := .tup [bD R, bD F]
def aD (arcs : List (Int × Int)) : D := .lst (arcs.map encA)
theorem ints_app (xs : List Int) (x : Int) : xs.map D.int ++ [.int x] = (xs ++ [x]).map D.int := by
  rw [List.map_append]
  rfl
section
variable {n : Int} {arcs : List (Int × Int)} {R F : List Bool} {a : Nat}
def eR (n : Int) (arcs : List (Int × Int)) (R F : List Bool) (a : Nat) (f : Nat → List Int) (x : Sl) : En :=
  [.fz (.int n), .fz (aD arcs), .fz (pD R F), .fz (.int a), .rt (.rf 11), x, .un, .un, .un, .un, .un, .nd (.ll (rngD n f))]
theorem rng_upd {f : Nat → List Int} {t : Nat} {h : Int} (ht : t < n.toNat) : (rngD n f).set t ((f t).map .int ++ [.int h]) = rngD n (fun v => if v = t then f v ++ [h] else f v) := by
  unfold rngD
  rw [← set_rng (fun v => (f v).map D.int) (fun v => (if v = t then f v ++ [h] else f v).map D.int) ht fun v hv => by rw [if_neg hv]]
  rw [if_pos rfl, ints_app]
theorem rng_at {f : Nat → List Int} {t : Nat} (ht : t < n.toNat) : (rngD n f)[t]? = some ((f t).map .int) := by
  unfold rngD
  rw [List.getElem?_map, List.getElem?_range ht]
  rfl
theorem rng_ix {f : Nat → List Int} {t : Nat} (ht : t < n.toNat) : ixN (rngD n f).length (t : Int) = some t := ixN_nat (by unfold rngD; simpa using ht)
theorem llapp_ok {f : Nat → List Int} {t k : Nat} {h : Int} {mk m : En → Option D} (ht : t < n.toNat) (hl : (f t).length < 100000) (h1 : mk (eR n arcs R F a f (.fz (.int k))) = some (.int t)) (h2 : m (eR n arcs R F a f (.fz (.int k))) = some (.int h)) :
    mLLApp 4 mk m (eR n arcs R F a f (.fz (.int k))) = some (.nx (eR n arcs R F a (fun v => if v = t then f v ++ [h] else f v) (.fz (.int k)))) := by
  have i1 := rng_ix (n := n) (f := f) ht
  have i2 := rng_at (n := n) (f := f) ht
  have i3 := rng_upd (n := n) (f := f) (h := h) ht
  unfold mLLApp
  rw [h1]
  show (m _).bind _ = _
  rw [h2]
  unfold eR
  simp [i1, i2, hl, i3]
theorem cond_ok {mc : En → Option Bool} {f : Nat → List Int} {t k : Nat} {h : Int} {c : Bool} {mk m : En → Option D} (hc : mc (eR n arcs R F a f (.fz (.int k))) = some c) (ht : t < n.toNat) (hl : (f t).length < 100000) (h1 : mk (eR n arcs R F a f (.fz (.int k))) = some (.int t)) (h2 : m (eR n arcs R F a f (.fz (.int k))) = some (.int h)) :
    mIfS mc (mLLApp 4 mk m) mNext (eR n arcs R F a f (.fz (.int k))) = some (.nx (eR n arcs R F a (fun v => if c = true ∧ v = t then f v ++ [h] else f v) (.fz (.int k)))) := by
  unfold mIfS
  rw [hc]
  cases c
  · simp
  · simp only [Option.bind_some, if_true, true_and]
    exact llapp_ok ht hl h1 h2
/-- the ends of the steps from each node -/
theorem around_ok (hn : 1 ≤ n ∧ n ≤ 400) (hl : arcs.length ≤ 1000) (ha : ∀ p ∈ arcs, AOk n p) (hR : R.length = arcs.length) (hF : F.length = arcs.length) (mb : En → Option Out)
    (hmb : mb = mSeq (mIfS (mAnd (fun E => ((mBin neD (mVarT 5) (mVarT 3)) E).bind blOf) (fun E => ((mBin ixD (mBin ixD (mVarT 2) (mC (.int 0))) (mVarT 5)) E).bind truD)) (mLLApp 4 (mBin ixD (mBin ixD (mVarT 1) (mVarT 5)) (mC (.int 0))) (mBin ixD (mBin ixD (mVarT 1) (mVarT 5)) (mC (.int 1)))) mNext)
      (mIfS (mAnd (fun E => ((mBin neD (mVarT 5) (mVarT 3)) E).bind blOf) (fun E => ((mBin ixD (mBin ixD (mVarT 2) (mC (.int 1))) (mVarT 5)) E).bind truD)) (mLLApp 4 (mBin ixD (mBin ixD (mVarT 1) (mVarT 5)) (mC (.int 1))) (mBin ixD (mBin ixD (mVarT 1) (mVarT 5)) (mC (.int 0)))) mNext)) :
    ∃ f x, runFor (gM 5) mb (rangeD 0 arcs.length) (eR n arcs R F a (fun _ => []) .un) = some (.nx (eR n arcs R F a f x)) ∧ (∀ (v : Nat) (w : Int), w ∈ f v ↔ ∃ k d, G arcs R F a v k d w) ∧ ∀ d, slSub 11 d x = x := by
  obtain ⟨E', g1, f, x, rfl, g2, g3, g4⟩ := runFor_inv (mg := gM 5) (mb := mb) (fun j E => ∃ f x, E = eR n arcs R F a f x ∧ (∀ (v : Nat) (w : Int), w ∈ f v ↔ ∃ k d, k < j ∧ G arcs R F a v k d w) ∧ (∀ v, (f v).length ≤ 2 * j) ∧ ∀ d, slSub 11 d x = x) (rangeD 0 arcs.length) 0 (eR n arcs R F a (fun _ => []) .un)
    ⟨_, _, rfl, fun v w => ⟨fun h => (nomatch h), fun ⟨k, d, h, _⟩ => absurd h (Nat.not_lt_zero _)⟩, fun v => Nat.zero_le _, fun d => rfl⟩
    (fun j d E hd hI => by
      simp only [Nat.zero_add] at hI ⊢
      obtain ⟨f, x, rfl, f1, f2, _⟩ := hI
      obtain ⟨rfl, hj⟩ := range_at hd
      rw [Int.zero_add]
      obtain ⟨p, hp⟩ : ∃ p, arcs[j]? = some p := ⟨_, List.getElem?_eq_getElem hj⟩
      obtain ⟨o1, o2, o3⟩ := ha p (List.mem_of_getElem? hp)
      obtain ⟨t, ht⟩ : ∃ t : Nat, p.1 = t := ⟨p.1.toNat, by omega⟩
      obtain ⟨h, hh⟩ : ∃ h : Nat, p.2 = h := ⟨p.2.toNat, by omega⟩
      have hat := atE (f := encA) hp
      have hr := atB (bs := R) (k := j) (by omega)
      have hf := atB (bs := F) (k := j) (by omega)
      obtain ⟨c1, hc1⟩ : ∃ c : Bool, c = (decide (j ≠ a) && R.getD j false) := ⟨_, rfl⟩
      obtain ⟨c2, hc2⟩ : ∃ c : Bool, c = (decide (j ≠ a) && F.getD j false) := ⟨_, rfl⟩
      have fa := f2 t
      have fb := f2 h
      have s1 := cond_ok (n := n) (arcs := arcs) (R := R) (F := F) (a := a) (f := f) (t := t) (k := j) (h := p.2) (c := c1) (mc := mAnd (fun E => ((mBin neD (mVarT 5) (mVarT 3)) E).bind blOf) (fun E => ((mBin ixD (mBin ixD (mVarT 2) (mC (.int 0))) (mVarT 5)) E).bind truD)) (mk := mBin ixD (mBin ixD (mVarT 1) (mVarT 5)) (mC (.int 0))) (m := mBin ixD (mBin ixD (mVarT 1) (mVarT 5)) (mC (.int 1)))
        (by by_cases e : j = a
            · simp [eR, hc1, e]
            · have e' : ¬ ((j : Int) = (a : Int)) := by omega
              simp [eR, hc1, e, e', pD, hr]) (by omega) (by omega) (by simp [eR, aD, hat, encA, ht]) (by simp [eR, aD, hat, encA])
      have hb2 : ((fun v => if c1 = true ∧ v = t then f v ++ [p.2] else f v) h).length < 100000 := by
        dsimp only
        split
        · rw [List.length_append, List.length_singleton]
          omega
        · omega
      have s2 := cond_ok (n := n) (arcs := arcs) (R := R) (F := F) (a := a) (f := fun v => if c1 = true ∧ v = t then f v ++ [p.2] else f v) (t := h) (k := j) (h := p.1) (c := c2) (mc := mAnd (fun E => ((mBin neD (mVarT 5) (mVarT 3)) E).bind blOf) (fun E => ((mBin ixD (mBin ixD (mVarT 2) (mC (.int 1))) (mVarT 5)) E).bind truD)) (mk := mBin ixD (mBin ixD (mVarT 1) (mVarT 5)) (mC (.int 1))) (m := mBin ixD (mBin ixD (mVarT 1) (mVarT 5)) (mC (.int 0)))
        (by by_cases e : j = a
            · simp [eR, hc2, e]
            · have e' : ¬ ((j : Int) = (a : Int)) := by omega
              simp [eR, hc2, e, e', pD, hf]) (by omega) hb2 (by simp [eR, aD, hat, encA, hh]) (by simp [eR, aD, hat, encA])
      refine ⟨eR n arcs R F a f (.fz (.int j)), _, by simp [eR], .inl ?_, fun v => if c2 = true ∧ v = h then (if c1 = true ∧ v = t then f v ++ [p.2] else f v) ++ [p.1] else if c1 = true ∧ v = t then f v ++ [p.2] else f v, .fz (.int j), rfl, fun v w => ?_, fun v => ?_, fun d => rfl⟩
      · rw [hmb, seq_nx _ s1]
        exact s2
      · have key : (∃ k d, k < j + 1 ∧ G arcs R F a v k d w) ↔ (∃ k d, k < j ∧ G arcs R F a v k d w) ∨ (c1 = true ∧ v = t ∧ w = p.2) ∨ (c2 = true ∧ v = h ∧ w = p.1) := by
          constructor
          · rintro ⟨k, d, hk, hg⟩
            by_cases e : k < j
            · exact .inl ⟨k, d, e, hg⟩
            · have : k = j := by omega
              subst this
              obtain ⟨g1, ⟨p', g2, g3⟩, g4⟩ := hg
              rw [hp] at g2
              cases g2
              right
              cases d
              · right
                have g3 : p.2 = v ∧ p.1 = w := by simpa using g3
                have g4 : F[k]? = some true := by simpa [May] using g4
                refine ⟨?_, by omega, g3.2.symm⟩
                rw [hc2, decide_eq_true g1, List.getD_eq_getElem?_getD, g4]
                rfl
              · left
                have g3 : p.1 = v ∧ p.2 = w := by simpa using g3
                have g4 : R[k]? = some true := by simpa [May] using g4
                refine ⟨?_, by omega, g3.2.symm⟩
                rw [hc1, decide_eq_true g1, List.getD_eq_getElem?_getD, g4]
                rfl
          · rintro (⟨k, d, hk, hg⟩ | ⟨g1, g2, g3⟩ | ⟨g1, g2, g3⟩)
            · exact ⟨k, d, by omega, hg⟩
            · rw [hc1, Bool.and_eq_true, decide_eq_true_iff] at g1
              refine ⟨j, true, by omega, g1.1, ⟨p, hp, ?_⟩, mayB_iff.mp (by simpa [mayB] using g1.2)⟩
              rw [if_pos rfl]
              exact ⟨by omega, g3.symm⟩
            · rw [hc2, Bool.and_eq_true, decide_eq_true_iff] at g1
              refine ⟨j, false, by omega, g1.1, ⟨p, hp, ?_⟩, mayB_iff.mp (by simpa [mayB] using g1.2)⟩
              rw [if_neg (by simp)]
              exact ⟨by omega, g3.symm⟩
        rw [key, ← f1 v w]
        by_cases e1 : c1 = true ∧ v = t <;> by_cases e2 : c2 = true ∧ v = h
        · simp only [if_pos e1, if_pos e2, List.mem_append, List.mem_singleton]
          have := e1.1; have := e1.2; have := e2.1; have := e2.2
          constructor
          · rintro ((h | h) | h)
            · exact .inl h
            · exact .inr (.inl ⟨e1.1, e1.2, h⟩)
            · exact .inr (.inr ⟨e2.1, e2.2, h⟩)
          · rintro (h | ⟨_, _, h⟩ | ⟨_, _, h⟩)
            · exact .inl (.inl h)
            · exact .inl (.inr h)
            · exact .inr h
        · simp only [if_pos e1, if_neg e2, List.mem_append, List.mem_singleton]
          constructor
          · rintro (h | h)
            · exact .inl h
            · exact .inr (.inl ⟨e1.1, e1.2, h⟩)
          · rintro (h | ⟨_, _, h⟩ | ⟨g1, g2, h⟩)
            · exact .inl h
            · exact .inr h
            · exact absurd ⟨g1, g2⟩ e2
        · simp only [if_neg e1, if_pos e2, List.mem_append, List.mem_singleton]
          constructor
          · rintro (h | h)
            · exact .inl h
            · exact .inr (.inr ⟨e2.1, e2.2, h⟩)
          · rintro (h | ⟨g1, g2, h⟩ | ⟨_, _, h⟩)
            · exact .inl h
            · exact absurd ⟨g1, g2⟩ e1
            · exact .inr h
        · simp only [if_neg e1, if_neg e2]
          constructor
          · exact fun h => .inl h
          · rintro (h | ⟨g1, g2, h⟩ | ⟨g1, g2, h⟩)
            · exact h
            · exact absurd ⟨g1, g2⟩ e1
            · exact absurd ⟨g1, g2⟩ e2
      · have := f2 v
        dsimp only
        split <;> split <;> (try simp only [List.length_append, List.length_singleton]) <;> omega)
  refine ⟨f, x, g1, fun v w => ?_, g4⟩
  rw [g2]
  rw [Nat.zero_add, rangeD_len]
  constructor
  · rintro ⟨k, d, _, hg⟩
    exact ⟨k, d, hg⟩
  · rintro ⟨k, d, hg⟩
    exact ⟨k, d, (hg.rng ha).2.2, hg⟩
end
end Sx

set_option Elab.async false
set_option linter.all false
set_option maxRecDepth 100000
set_option maxHeartbeats 4000000
namespace Sx
open PySem L2
section
variable {n : Int} {arcs : List (Int × Int)} {R F : List Bool} {a : Nat} {s : Int}
def eD (n : Int) (arcs : List (Int × Int)) (R F : List Bool) (a : Nat) (f : Nat → List Int) (k : Sl) (rs : List Bool) (ws : List Int) (x y z : Sl) : En :=
  [.fz (.int n), .fz (aD arcs), .fz (pD R F), .fz (.int a), .rt (.fz (.lst ((rngD n f).map .lst))), k, .ow (rs.map .bl), .ow (ws.map .int), x, y, z, .un]
/-- what the search by the stack keeps -/
structure Dfs (arcs : List (Int × Int)) (R F : List Bool) (a : Nat) (s n : Int) (rs : List Bool) (P W : List Int) : Prop where
  len : rs.length = n.toNat
  nd : (P ++ W).Nodup
  rng : ∀ v ∈ P ++ W, 0 ≤ v ∧ v < n
  mem : ∀ v : Nat, v < n.toNat → (rs.getD v false = true ↔ (v : Int) ∈ P ++ W)
  rch : ∀ v ∈ P ++ W, Rch arcs R F a s v
  st : s ∈ P ++ W
theorem Dfs.add {rs : List Bool} {P W : List Int} (D : Dfs arcs R F a s n rs P W) {v : Nat} (hv : v < n.toNat) (h : rs.getD v false = false) (r : Rch arcs R F a s v) : Dfs arcs R F a s n (rs.set v true) P (W ++ [(v : Int)]) := by
  have nm : (v : Int) ∉ P ++ W := fun z => by
    have := (D.mem v hv).mpr z
    rw [h] at this
    cases this
  have mm : ∀ w, w ∈ P ++ (W ++ [(v : Int)]) ↔ w ∈ P ++ W ∨ w = v := fun w => by
    rw [← List.append_assoc, List.mem_append, List.mem_singleton]
  refine ⟨by rw [List.length_set]; exact D.len, ?_, fun w hw => ?_, fun w hw => ?_, fun w hw => ?_, (mm s).mpr (.inl D.st)⟩
  · rw [← List.append_assoc, List.nodup_append]
    exact ⟨D.nd, by simp, fun x hx y hy z => nm (by rw [← List.mem_singleton.mp hy, ← z]; exact hx)⟩
  · rcases (mm w).mp hw with h | h
    · exact D.rng w h
    · omega
  · rw [mm, ← D.mem w hw]
    by_cases e : v = w
    · subst e
      rw [List.getD_eq_getElem?_getD, List.getElem?_set_self (by rw [D.len]; exact hv)]
      simp
    · rw [List.getD_eq_getElem?_getD, List.getElem?_set_ne e, ← List.getD_eq_getElem?_getD]
      constructor
      · exact .inl
      · rintro (h | h)
        · exact h
        · omega
  · rcases (mm w).mp hw with h | h
    · exact D.rch w h
    · rw [h]; exact r
theorem inner_ok (f : Nat → List Int) (mb : En → Option Out)
    (hmb : mb = mIfS (mNot (fun E => ((mBin ixD (mVarT 6) (mVarT 10)) E).bind truD)) (mSeq (mSub 6 (mC (.bl true)) (mVar 10)) (mApp 7 (mVar 10))) mNext) (k x : Sl) (u : Int) (hn : 1 ≤ n ∧ n ≤ 400) : ∀ (os : List Int) (rs : List Bool) (P W : List Int) (z : Sl), Dfs arcs R F a s n rs P W → (∀ v ∈ os, (0 ≤ v ∧ v < n) ∧ Rch arcs R F a s v) →
    ∃ rs' W' z', runFor (gM 10) mb (os.map .int) (eD n arcs R F a f k rs W x (.fz (.int u)) z) = some (.nx (eD n arcs R F a f k rs' W' x (.fz (.int u)) z')) ∧ Dfs arcs R F a s n rs' P W' ∧ (∀ v ∈ os, v ∈ P ++ W') ∧ ∀ v ∈ P ++ W, v ∈ P ++ W'
  | [], rs, P, W, z, Z, _ => ⟨rs, W, z, rfl, Z, fun v h => (nomatch h), fun v h => h⟩
  | o :: os, rs, P, W, z, Z, ho => by
    obtain ⟨o1, o2⟩ := ho o (List.mem_cons_self ..)
    obtain ⟨v, rfl⟩ : ∃ v : Nat, o = v := ⟨o.toNat, by omega⟩
    have hv : v < n.toNat := by omega
    have hat := atB (bs := rs) (k := v) (by rw [Z.len]; exact hv)
    have hWl : W.length ≤ 400 := by
      have := nodup_le Z.nd Z.rng
      rw [List.length_append] at this
      omega
    cases hb : rs.getD v false with
    | true =>
      rw [hb] at hat
      obtain ⟨rs', W', z', g1, g2, g3, g4⟩ := inner_ok f mb hmb k x u hn os rs P W (.fz (.int v)) Z fun w hw => ho w (List.mem_cons_of_mem _ hw)
      refine ⟨rs', W', z', ?_, g2, fun w hw => ?_, g4⟩
      · have step : mb (eD n arcs R F a f k rs W x (.fz (.int u)) (.fz (.int v))) = some (.nx (eD n arcs R F a f k rs W x (.fz (.int u)) (.fz (.int v)))) := by
          rw [hmb]
          simp [eD, hat]
        show (mb (eD n arcs R F a f k rs W x (.fz (.int u)) (.fz (.int v)))).bind _ = _
        rw [step]
        exact g1
      · rcases List.mem_cons.mp hw with h | h
        · rw [h]
          exact g4 _ ((Z.mem v hv).mp hb)
        · exact g3 w h
    | false =>
      rw [hb] at hat
      have D2 := Z.add hv hb o2
      obtain ⟨rs', W', z', g1, g2, g3, g4⟩ := inner_ok f mb hmb k x u hn os (rs.set v true) P (W ++ [(v : Int)]) (.fz (.int v)) D2 fun w hw => ho w (List.mem_cons_of_mem _ hw)
      refine ⟨rs', W', z', ?_, g2, fun w hw => ?_, fun w hw => g4 w ?_⟩
      · have i1 : ixN (rs.map D.bl).length (v : Int) = some v := ixN_nat (by rw [List.length_map, Z.len]; exact hv)
        have hwl : W.length < 100000 := by omega
        have step : mb (eD n arcs R F a f k rs W x (.fz (.int u)) (.fz (.int v))) = some (.nx (eD n arcs R F a f k (rs.set v true) (W ++ [(v : Int)]) x (.fz (.int u)) (.fz (.int v)))) := by
          rw [hmb]
          rw [List.length_map] at i1
          simp [eD, hat, i1, hwl]
        show (mb (eD n arcs R F a f k rs W x (.fz (.int u)) (.fz (.int v)))).bind _ = _
        rw [step]
        exact g1
      · rcases List.mem_cons.mp hw with h | h
        · rw [h]
          exact g4 _ (by rw [← List.append_assoc]; exact List.mem_append_right _ (List.mem_singleton.mpr rfl))
        · exact g3 w h
      · rw [← List.append_assoc]
        exact List.mem_append_left _ hw
theorem reached_ok (hn : 1 ≤ n ∧ n ≤ 400) (hl : arcs.length ≤ 1000) (ha : ∀ p ∈ arcs, AOk n p) (hR : R.length = arcs.length) (hF : F.length = arcs.length) {q : Int × Int} (hq : arcs[a]? = some q) :
    ∃ rs : List Bool, m__law_reached [.int n, aD arcs, pD R F, .int a] = some (bD rs) ∧ rs.length = n.toNat ∧ ∀ v : Nat, v < n.toNat → (rs.getD v false = true ↔ Rch arcs R F a q.2 v) := by
  unfold m__law_reached callM b__law_reached
  generalize hm1 : (mSeq (mIfS (mAnd _ _) (mLLApp 4 _ _) mNext) (mIfS _ (mLLApp 4 _ _) mNext)) = mb1
  obtain ⟨f, k, g1, hf, hk⟩ := around_ok (n := n) (arcs := arcs) (R := R) (F := F) (a := a) hn hl ha hR hF mb1 hm1.symm
  generalize hm2 : (mIfS (mNot (fun E => ((mBin ixD (mVarT 6) (mVarT 10)) E).bind truD)) (mSeq (mSub 6 (mC (.bl true)) (mVar 10)) (mApp 7 (mVar 10))) mNext) = mb2
  generalize hm3 : (mIfS _ (mSeq (mPopA 7 (gM 9)) _) mNext) = mb3
  have hs : 0 ≤ q.2 ∧ q.2 < n := (ha q (List.mem_of_getElem? hq)).2.2
  obtain ⟨t, ht⟩ : ∃ t : Nat, q.2 = t := ⟨q.2.toNat, by omega⟩
  have htn : t < n.toNat := by omega
  have hrs0 : ∀ v : Nat, (List.replicate n.toNat false).getD v false = false := fun v => by
    rw [List.getD_eq_getElem?_getD, List.getElem?_replicate]
    split <;> rfl
  have D0 : Dfs arcs R F a q.2 n ((List.replicate n.toNat false).set t true) [] [q.2] := by
    refine ⟨by simp, by simp, fun v hv => ?_, fun v hv => ?_, fun v hv => ?_, by simp⟩
    · have : v = q.2 := by simpa using hv
      omega
    · rw [List.nil_append, List.mem_singleton]
      by_cases e : t = v
      · subst e
        rw [List.getD_eq_getElem?_getD, List.getElem?_set_self (by simpa using hv)]
        simp [ht]
      · rw [List.getD_eq_getElem?_getD, List.getElem?_set_ne e, ← List.getD_eq_getElem?_getD, hrs0]
        constructor
        · intro h; cases h
        · intro h; omega
    · have : v = q.2 := by simpa using hv
      rw [this]
      exact .base
  obtain ⟨E', g2, rs, P, W, x, y, z, rfl, d1, d2, d3⟩ := runFor_inv (mg := gM 8) (mb := mb3) (fun j E => ∃ rs P W x y z, E = eD n arcs R F a f k rs W x y z ∧ Dfs arcs R F a q.2 n rs P W ∧ (∀ u ∈ P, ∀ k d v, G arcs R F a u k d v → v ∈ P ++ W) ∧ (W = [] ∨ P.length = j)) (rangeD 0 n.toNat) 0
    (eD n arcs R F a f k ((List.replicate n.toNat false).set t true) [q.2] .un .un .un) ⟨_, [], [q.2], _, _, _, rfl, D0, fun u h => (nomatch h), .inr rfl⟩
    (fun j d E hd hI => by
      simp only [Nat.zero_add] at hI ⊢
      obtain ⟨rs, P, W, x, y, z, rfl, D1, cl, hw⟩ := hI
      obtain ⟨rfl, hj⟩ := range_at hd
      rw [Int.zero_add]
      by_cases e : W = []
      · subst e
        refine ⟨eD n arcs R F a f k rs [] (.fz (.int j)) y z, _, by simp [eD], .inl ?_, rs, P, [], .fz (.int j), y, z, rfl, D1, cl, .inl rfl⟩
        subst hm3
        simp [eD]
      · obtain ⟨W0, u, rfl⟩ : ∃ W0 u, W = W0 ++ [u] := ⟨W.dropLast, W.getLast e, (List.dropLast_concat_getLast e).symm⟩
        have hu := D1.rng u (by simp)
        obtain ⟨v, hv⟩ : ∃ v : Nat, u = v := ⟨u.toNat, by omega⟩
        have hvn : v < n.toNat := by omega
        have mm : ∀ w, w ∈ (P ++ [u]) ++ W0 ↔ w ∈ P ++ (W0 ++ [u]) := fun w => by
          simp only [List.mem_append, List.mem_singleton]
          constructor
          · rintro ((h | h) | h)
            · exact .inl h
            · exact .inr (.inr h)
            · exact .inr (.inl h)
          · rintro (h | h | h)
            · exact .inl (.inl h)
            · exact .inr h
            · exact .inl (.inr h)
        have D2 : Dfs arcs R F a q.2 n rs (P ++ [u]) W0 := by
          refine ⟨D1.len, ?_, fun w hw => D1.rng w ((mm w).mp hw), fun w hw => (D1.mem w hw).trans (mm _).symm, fun w hw => D1.rch w ((mm w).mp hw), (mm _).mpr D1.st⟩
          have := D1.nd
          rw [List.append_assoc]
          refine (List.Perm.nodup_iff ?_).mpr this
          exact (List.perm_append_comm (l₁ := [u]) (l₂ := W0)).append_left P
        obtain ⟨rs', W', z', g1, g2, g3, g4⟩ := inner_ok f mb2 hm2.symm k (.fz (.int j)) u hn (f v) rs (P ++ [u]) W0 z D2 fun w hw => by
          obtain ⟨k', d', hg⟩ := (hf v w).mp hw
          refine ⟨(hg.rng ha).2.1, ?_⟩
          have := D1.rch u (by simp)
          rw [hv] at this
          exact .step this hg
        have hlk : atI ((rngD n f).map D.lst) u = some (.lst ((f v).map .int)) := by
          rw [hv]
          exact atE (f := D.lst) (rng_at (f := f) hvn)
        refine ⟨eD n arcs R F a f k rs (W0 ++ [u]) (.fz (.int j)) y z, eD n arcs R F a f k rs' W' (.fz (.int j)) (.fz (.int u)) z', by simp [eD], .inl ?_, rs', P ++ [u], W', .fz (.int j), .fz (.int u), z', rfl, g2, fun w hw k' d' v' hg => ?_, ?_⟩
        · subst hm3
          unfold eD at g1 ⊢
          simp [hlk]
          exact g1
        · rcases List.mem_append.mp hw with h | h
          · exact g4 _ ((mm _).mpr (cl w h k' d' v' hg))
          · have h := List.mem_singleton.mp h
            subst h
            rw [hv] at hg
            exact g3 v' ((hf v v').mpr ⟨k', d', hg⟩)
        · right
          rcases hw with h | h
          · exact absurd h e
          · rw [List.length_append, h]
            rfl)
  rw [Nat.zero_add, rangeD_len] at d3
  have hW : W = [] := by
    rcases d3 with h | h
    · exact h
    · have := nodup_le d1.nd d1.rng
      rw [List.length_append, h] at this
      have h0 : W.length = 0 := by omega
      exact List.length_eq_zero_iff.mp h0
  subst hW
  refine ⟨rs, ?_, d1.len, fun v hv => ?_⟩
  · have hat := atE (f := encA) hq
    have n1 : n ≤ 100000 := by omega
    have n2 : -100000 ≤ n := by omega
    have al : (arcs.length : Int) ≤ 100000 := by omega
    have al2 : arcs.length ≤ 100000 := by omega
    show run (mSeq _ _ _) = _
    refine mat_nx (eR n arcs R F a (fun _ => []) .un) ?_ ?_
    · have hr : rngD n (fun _ => []) = List.replicate n.toNat [] := by
        unfold rngD
        refine List.ext_getElem? fun i => ?_
        by_cases hi : i < n.toNat
        · rw [List.getElem?_replicate, if_pos hi, List.getElem?_map, List.getElem?_range hi]; rfl
        · rw [List.getElem?_replicate, if_neg hi, List.getElem?_eq_none (by simpa using hi)]
      have hrl : (rangeD 0 n.toNat).length = n.toNat := rangeD_len ..
      have hz : n.toNat ≤ 100000 := by omega
      simp [eR, hr, n1, n2, hrl, hz]
    refine mat_for (rangeD 0 arcs.length) _ (by simp [eR, aD, al2]; omega) g1 ?_
    have i1 : ixN n.toNat q.2 = some t := by rw [ht]; exact ixN_nat htn
    refine mat_nx [.fz (.int n), .fz (aD arcs), .fz (pD R F), .fz (.int a), .rt (.fz (.lst ((rngD n f).map .lst))), k, .ow ((List.replicate n.toNat false).map .bl), .un, .un, .un, .un, .un] ?_ ?_
    · have hz : n.toNat ≤ 100000 := by omega
      have hk' := hk (.lst ((rngD n f).map .lst))
      unfold slSub at hk'
      simp [eR, n1, n2, hz, rep_one]
      exact hk'
    refine mat_nx [.fz (.int n), .fz (aD arcs), .fz (pD R F), .fz (.int a), .rt (.fz (.lst ((rngD n f).map .lst))), k, .ow (((List.replicate n.toNat false).set t true).map .bl), .un, .un, .un, .un, .un] (by simp [aD, hat, encA, i1, List.map_set]) ?_
    refine mat_nx (eD n arcs R F a f k ((List.replicate n.toNat false).set t true) [q.2] .un .un .un) (by simp [eD, aD, hat, encA]) ?_
    refine mat_for (rangeD 0 n.toNat) _ (by simp [eD, n1, n2]) g2 ?_
    simp [run, eD]
  · have hmem := d1.mem v hv
    rw [hmem]
    constructor
    · exact fun h => d1.rch _ h
    · intro r
      exact r.sub (fun w => w ∈ P ++ []) d1.st fun u k d w hu hg => d2 u (by simpa using hu) k d w hg
end
end Sx

set_option Elab.async false
set_option linter.all false
set_option maxRecDepth 100000
set_option maxHeartbeats 4000000
namespace Sx
open PySem L2
theorem allI (ns : List Int) : allInts (ns.map D.int) = some ns := allInts_map ns
section
variable {n : Int} {arcs : List (Int × Int)} {R F : List Bool} {a : Nat} {q : Int × Int}
theorem Pth.k {ps : List (Nat × Bool)} {u w : Int} {vs : List Int} (p : Pth arcs R F a ps u w vs) : ∀ t ∈ ps, t.1 < arcs.length := by
  induction p with
  | nil u => exact fun t h => (nomatch h)
  | cons g _ ih =>
    intro t h
    rcases List.mem_cons.mp h with e | e
    · rw [e]
      obtain ⟨_, ⟨p, hp, _⟩, _⟩ := g
      exact (List.getElem?_eq_some_iff.mp hp).1
    · exact ih t e
def eG (arcs : List (Int × Int)) (R F : List Bool) (a : Nat) (ps : List (Nat × Bool)) (u : Int) (es : List Int) (x y z : Sl) : En :=
  [.fz (aD arcs), .fz (pD R F), .fz (.int a), .fz (.lst (((a, true) :: ps).map encP)), .fz (.int u), .ow (es.map .int), x, y, z]
theorem due_walk (hl : arcs.length ≤ 1000) (hR : R.length = arcs.length) (hF : F.length = arcs.length) (ps0 : List (Nat × Bool)) (y : Sl) (mb : En → Option Out)
    (hmb : mb = (mSeq (mIfS (mOr (fun E => ((mBin (intOp fun i j => .bl (decide (i < j))) (mBin ixD (mVarT 6) (mC (.int 0))) (mC (.int 0))) E).bind blOf) (mOr (fun E => ((mBin (intOp fun i j => .bl (decide (j ≤ i))) (mBin ixD (mVarT 6) (mC (.int 0))) (mUn lenD (mVarT 0))) E).bind blOf) (fun E => ((mBin eqD (mBin ixD (mVarT 6) (mC (.int 0))) (mVarT 2)) E).bind blOf))) (mRet (mC (.bl false))) mNext)
      (mSeq (mSet 8 (mBin ixD (mVarT 0) (mBin ixD (mVarT 6) (mC (.int 0)))))
      (mSeq (mIfS (mAnd (fun E => ((mBin eqD (mBin ixD (mVarT 6) (mC (.int 1))) (mC (.int 1))) E).bind blOf) (mAnd (fun E => ((mBin ixD (mBin ixD (mVarT 1) (mC (.int 0))) (mBin ixD (mVarT 6) (mC (.int 0)))) E).bind truD) (fun E => ((mBin eqD (mBin ixD (mVarT 8) (mC (.int 0))) (mVarT 4)) E).bind blOf))) (mSet 4 (mBin ixD (mVarT 8) (mC (.int 1)))) (mIfS (mAnd (fun E => ((mBin eqD (mBin ixD (mVarT 6) (mC (.int 1))) (mUn negD (mC (.int 1)))) E).bind blOf) (mAnd (fun E => ((mBin ixD (mBin ixD (mVarT 1) (mC (.int 1))) (mBin ixD (mVarT 6) (mC (.int 0)))) E).bind truD) (fun E => ((mBin eqD (mBin ixD (mVarT 8) (mC (.int 1))) (mVarT 4)) E).bind blOf))) (mSet 4 (mBin ixD (mVarT 8) (mC (.int 0)))) (mRet (mC (.bl false)))))
      (mApp 5 (mVar 4)))))) : ∀ {ps : List (Nat × Bool)} {u w : Int} {vs : List Int}, Pth arcs R F a ps u w vs → ∀ (es : List Int) (x z : Sl), es.length + ps.length ≤ 1000 →
    ∃ x' z', runFor (gM 6) mb (ps.map encP) (eG arcs R F a ps0 u es x y z) = some (.nx (eG arcs R F a ps0 w (es ++ vs) x' y z')) := by
  intro ps u w vs p
  induction p with
  | nil u =>
    intro es x z _
    exact ⟨x, z, by rw [List.append_nil]; rfl⟩
  | @cons u v w k d ps vs g _ ih =>
    intro es x z he
    rw [List.length_cons] at he
    obtain ⟨g1, ⟨p, hp, g3⟩, g4⟩ := g
    have hk : k < arcs.length := (List.getElem?_eq_some_iff.mp hp).1
    obtain ⟨x', z', gg⟩ := ih (es ++ [v]) (.fz (encP (k, d))) (.fz (encA p)) (by rw [List.length_append, List.length_singleton]; omega)
    refine ⟨x', z', ?_⟩
    have hat := atE (f := encA) hp
    have hr := atB (bs := R) (k := k) (by omega)
    have hf := atB (bs := F) (k := k) (by omega)
    have hm := mayB_iff.mpr g4
    have g1' : ¬ ((k : Int) = (a : Int)) := by omega
    have k1 : ¬ ((arcs.length : Int) ≤ k) := by omega
    have k0 : ¬ ((k : Int) < 0) := by omega
    have k1' : ¬ (arcs.length ≤ k) := by omega
    have hel : es.length < 100000 := by omega
    have step : mb (eG arcs R F a ps0 u es (.fz (encP (k, d))) y z) = some (.nx (eG arcs R F a ps0 v (es ++ [v]) (.fz (encP (k, d))) y (.fz (encA p)))) := by
      rw [hmb]
      cases d
      · have g3 : p.2 = u ∧ p.1 = v := by simpa using g3
        have hm' : F.getD k false = true := by simpa [mayB] using hm
        rw [hm'] at hf
        simp [eG, encP, aD, pD, k0, k1, k1', g1, g1', hat, encA, hf, g3.1, g3.2, hel]
      · have g3 : p.1 = u ∧ p.2 = v := by simpa using g3
        have hm' : R.getD k false = true := by simpa [mayB] using hm
        rw [hm'] at hr
        simp [eG, encP, aD, pD, k0, k1, k1', g1, g1', hat, encA, hr, g3.1, g3.2, hel]
    show (mb (eG arcs R F a ps0 u es (.fz (encP (k, d))) y z)).bind _ = _
    rw [step]
    rw [List.append_assoc] at gg
    exact gg
theorem cut1 {α : Type} (f : α → D) (x : α) (xs : List α) : cutD ((x :: xs).map f) (some 1) none = xs.map f := by
  rw [cutD_map]
  congr 1
  unfold cutG
  rw [sIx_pos (i := 1) (by omega)]
  show ((x :: xs).drop (min 1 (xs.length + 1))).take _ = xs
  have hm : min 1 (xs.length + 1) = 1 := Nat.min_eq_left (by omega)
  rw [hm]
  show xs.take (xs.length + 1 - min 1 (xs.length + 1)) = xs
  rw [hm, Nat.add_sub_cancel, List.take_length]
theorem eqB_tup {ds : List D} (h : okDs ds = true) (hd : depDs ds ≤ 60) : eqB (.tup ds) (.tup ds) = some true := by
  have s := shaped_of (d := .tup ds) (by rw [okD]; exact h) (by rw [depD]; omega)
  show (if SeqAt.shaped (D.tup ds).py = true ∧ SeqAt.shaped (D.tup ds).py = true then some (PyData.eqv (D.tup ds).py (D.tup ds).py) else none) = _
  rw [if_pos ⟨s, s⟩, py_eqv]
  rw [okD]
  exact h
@[simp] theorem at_0 {α : Type} (x : α) (xs : List α) : atI (x :: xs) 0 = some x := by
  exact atI_nat (x :: xs) 0
theorem pair_sh (x : Int) : SeqAt.shaped (D.tup [.int x, .int 1]).py = true := shaped_of (d := .tup [.int x, .int 1]) (by simp [okDs, okD]) (by simp [depDs, depD])
theorem pair_eqv (x : Int) : PyData.eqv (D.tup [.int x, .int 1]).py (D.tup [.int x, .int 1]).py = true := py_eqv _ (by simp [okDs, okD])
theorem eq_pair (x : Int) : eqB (.tup [.int x, .int 1]) (.tup [.int x, .int 1]) = some true := by
  exact eqB_tup (by simp [okDs, okD]) (by simp [depDs, depD])
theorem Pth.nil_eq {ps : List (Nat × Bool)} {u w : Int} {vs : List Int} (p : Pth arcs R F a ps u w vs) (h : ps = []) : u = w := by
  cases p with
  | nil u => rfl
  | cons _ _ => cases h
theorem ring_due_ok (hn : 1 ≤ n ∧ n ≤ 400) (hl : arcs.length ≤ 1000) (ha : ∀ p ∈ arcs, AOk n p) (hR : R.length = arcs.length) (hF : F.length = arcs.length) (hq : arcs[a]? = some q) {ps : List (Nat × Bool)} {vs : List Int} (hp : Pth arcs R F a ps q.2 q.1 vs) (nd : (q.2 :: vs).Nodup) (hpl : ps.length ≤ 400) :
    m__law_ring_due [aD arcs, pD R F, .int a, .lst (((a, true) :: ps).map encP)] = some (.bl true) := by
  unfold m__law_ring_due callM b__law_ring_due
  generalize hmb : (mSeq (mIfS (mOr _ (mOr _ _)) (mRet (mC (.bl false))) mNext) (mSeq (mSet 8 _) _)) = mb
  obtain ⟨x', z', g1⟩ := due_walk hl hR hF ps .un mb hmb.symm hp [q.2] .un .un (by simp; omega)
  have hat := atE (f := encA) hq
  have hne : ps.length ≠ 0 := fun z => by
    exact (ha q (List.mem_of_getElem? hq)).1 (hp.nil_eq (List.length_eq_zero_iff.mp z)).symm
  have hvl := hp.len
  have hlen : ¬ ((ps.length : Int) + 1 < 2) := by omega
  have he := eq_pair a
  have c1 := cut1 encP (a, true) ps
  generalize hmb2 : (mIfS (fun E => ((mBin eqD (mBin ixD (mVarT 5) _) (mBin ixD (mVarT 5) (mVarT 7))) E).bind blOf) (mRet (mC (.bl false))) mNext) = mb2
  have sp := sortI_perm (q.2 :: vs)
  have snd : (sortI (q.2 :: vs)).Nodup := sp.nodup_iff.mpr nd
  have sl : (sortI (q.2 :: vs)).length = vs.length + 1 := sp.length_eq
  obtain ⟨E', g2, y, rfl⟩ := runFor_inv (mg := gM 7) (mb := mb2) (fun _ E => ∃ y, E = eG arcs R F a ps q.1 (sortI (q.2 :: vs)) x' y z') (rangeD 1 vs.length) 0 (eG arcs R F a ps q.1 (sortI (q.2 :: vs)) x' .un z') ⟨_, rfl⟩ (fun j d E hd hI => by
    obtain ⟨y, rfl⟩ := hI
    obtain ⟨rfl, hj⟩ := range_at hd
    have i1 : (sortI (q.2 :: vs))[j]? = some ((sortI (q.2 :: vs))[j]'(by omega)) := List.getElem?_eq_getElem (by omega)
    have i2 : (sortI (q.2 :: vs))[j + 1]? = some ((sortI (q.2 :: vs))[j + 1]'(by omega)) := List.getElem?_eq_getElem (by omega)
    have a1 := atE (f := D.int) i1
    have a2 := atE (f := D.int) i2
    have dne : ¬ ((sortI (q.2 :: vs))[j]'(by omega) = (sortI (q.2 :: vs))[j + 1]'(by omega)) := fun z => by
      have := (List.getElem_inj snd).mp z
      omega
    refine ⟨_, _, rfl, .inl ?_, .fz (.int (1 + j)), rfl⟩
    subst hmb2
    have e1 : (1 : Int) + (j : Int) - 1 = (j : Int) := by omega
    have e2 : (1 : Int) + (j : Int) = ((j + 1 : Nat) : Int) := by omega
    generalize (sortI (q.2 :: vs))[j]'(by omega) = w1 at *
    generalize (sortI (q.2 :: vs))[j + 1]'(by omega) = w2 at *
    simp only [eG]
    simp [e1, a1]
    rw [e2]
    have a2' : atI (List.map D.int (sortI (q.2 :: vs))) ((j : Int) + 1) = some (D.int w2) := by
      rw [show (j : Int) + 1 = ((j + 1 : Nat) : Int) by omega]
      exact a2
    simp [a2', dne])
  show run (mSeq _ _ _) = _
  refine mat_nx [.fz (aD arcs), .fz (pD R F), .fz (.int a), .fz (.lst (((a, true) :: ps).map encP)), .un, .un, .un, .un, .un] (by simp [hlen, encP, pair_sh, pair_eqv]) ?_
  refine mat_nx [.fz (aD arcs), .fz (pD R F), .fz (.int a), .fz (.lst (((a, true) :: ps).map encP)), .fz (.int q.2), .un, .un, .un, .un] (by simp [aD, hat, encA]) ?_
  refine mat_nx (eG arcs R F a ps q.2 [q.2] .un .un .un) (by simp [eG]) ?_
  refine mat_for (ps.map encP) _ (by simp only [eG]; rw [List.map_cons] at c1; simp [c1]) g1 ?_
  refine mat_nx (eG arcs R F a ps q.1 (sortI (q.2 :: vs)) x' .un z') (by simp [eG]; rw [← List.map_cons, allI]; simp) ?_
  refine mat_for (rangeD 1 vs.length) _ (by simp [eG, sl]; omega) g2 ?_
  simp [run, eG, aD, hat, encA]
end
end Sx

set_option Elab.async false
set_option linter.all false
set_option maxRecDepth 100000
set_option maxHeartbeats 4000000
namespace Sx
open PySem L2
section
variable {n : Int} {arcs : List (Int × Int)} {R F : List Bool} {a : Nat} {q : Int × Int}
def kI (vs : List Int) : List Key := vs.map Sum.inl
theorem kI_mem (v : Int) (vs : List Int) : (Sum.inl v : Key) ∈ kI vs ↔ v ∈ vs := by
  unfold kI
  constructor
  · intro h
    obtain ⟨e, h1, h2⟩ := List.mem_map.mp h
    cases h2
    exact h1
  · exact fun h => List.mem_map.mpr ⟨v, h, rfl⟩
def tR (vs : List Int) : List Sx.R := (vs.map fun _ => D.bl true).map .fz
@[simp] theorem tR_len (vs : List Int) : (tR vs).length = vs.length := by simp [tR]
@[simp] theorem tR_closed (vs : List Int) : closeds (tR vs) = some (vs.map fun _ => D.bl true) := closeds_fz _
theorem putKey_i {vs : List Int} {v : Int} (h : v ∉ vs) : putKey (kI vs) (Sum.inl v : Key) = kI (vs ++ [v]) := by
  rw [putKey_not fun z => h ((kI_mem _ _).mp z)]
  unfold kI
  rw [List.map_append]
  rfl
theorem putVal_i {vs : List Int} {v : Int} (h : v ∉ vs) : putVal (kI vs) (tR vs) (Sum.inl v : Key) (Sx.R.fz (.bl true)) = tR (vs ++ [v]) := by
  rw [putVal_not fun z => h ((kI_mem _ _).mp z)]
  unfold tR
  rw [List.map_append, List.map_append]
  rfl
theorem memK_i {vs : List Int} {v : Int} (h : v ∉ vs) : memK (Sum.inl v : Key) (kI vs) = false := by
  cases e : memK (Sum.inl v : Key) (kI vs) with
  | false => rfl
  | true => exact absurd ((kI_mem _ _).mp (memK_iff.mp e)) h
def eI (n : Int) (arcs : List (Int × Int)) (R F : List Bool) (a : Nat) (q : Int × Int) (ps : List (Nat × Bool)) (vis : List Int) (u : Int) (x y z w : Sl) : En :=
  [.fz (nD n arcs), .fz (bD R), .fz (bD F), .fz (.int a), .fz (.lst (((a, true) :: ps).map encP)), .rt (.rf 12), .fz (.int q.1), .fz (.int u), x, y, z, w, .nd (.dct (kI vis) (tR vis))]
theorem ring_walk (hl : arcs.length ≤ 1000) (hR : R.length = arcs.length) (hF : F.length = arcs.length) (ps0 : List (Nat × Bool)) (mb : En → Option Out)
    (hmb : mb = (mSeq (mIfS (mOr (fun E => ((mBin eqD (mVarT 8) (mVarT 3)) E).bind blOf) (mNot (fun E => ((mCall 5 m__may_go (mCons (mVar 0) (mCons (mVar 1) (mCons (mVar 2) (mCons (mVar 8) (mCons (mVar 9) mNil)))))) E).bind truD))) (mRet (mC (.bl false))) mNext)
      (mSeq (mAsg (gTupM 2 (gsCons (gM 10) (gsCons (gM 11) gsNil))) (mCall 3 m_ends_of (mCons (mVar 0) (mCons (mVar 8) (mCons (mVar 9) mNil)))))
      (mSeq (mIfS (mOr (fun E => ((mBin neD (mVarT 10) (mVarT 7)) E).bind blOf) (fun E => ((mBin inD2 (mVarT 11) (mVarT 5)) E).bind blOf)) (mRet (mC (.bl false))) mNext)
      (mSeq (mDPut 5 (mC (.bl true)) (mVar 11))
      (mSet 7 (mVar 11))))))) : ∀ {ps : List (Nat × Bool)} {u w : Int} {vs : List Int}, Pth arcs R F a ps u w vs → ∀ (vis : List Int) (x y z t : Sl), (vis ++ vs).Nodup → vis.length + ps.length ≤ 1000 →
    ∃ vis' x' y' z' t', runFor (gTupM 2 (gsCons (gM 8) (gsCons (gM 9) gsNil))) mb (ps.map encP) (eI n arcs R F a q ps0 vis u x y z t) = some (.nx (eI n arcs R F a q ps0 vis' w x' y' z' t')) := by
  intro ps u w vs p
  induction p with
  | nil u =>
    intro vis x y z t _ _
    exact ⟨vis, x, y, z, t, rfl⟩
  | @cons u v w k d ps vs g _ ih =>
    intro vis x y z t nd hv
    rw [List.length_cons] at hv
    have nd' : (vis ++ [v] ++ vs).Nodup := by rw [List.append_assoc]; exact nd
    obtain ⟨g1, ⟨p, hp, g3⟩, g4⟩ := g
    have hk : k < arcs.length := (List.getElem?_eq_some_iff.mp hp).1
    obtain ⟨vis', x', y', z', t', gg⟩ := ih (vis ++ [v]) (.fz (.int k)) (.fz (.int (dirI d))) (.fz (.int u)) (.fz (.int v)) nd' (by rw [List.length_append, List.length_singleton]; omega)
    refine ⟨vis', x', y', z', t', ?_⟩
    have hm := mayB_iff.mpr g4
    have h1 := may_ok (n := n) hR hF hk d
    rw [hm] at h1
    have h2 := ends_ok (n := n) hp d
    have e1 : (if d = true then p.1 else p.2) = u := by cases d <;> simp at g3 ⊢ <;> exact g3.1
    have e2 : (if d = true then p.2 else p.1) = v := by cases d <;> simp at g3 ⊢ <;> exact g3.2
    rw [e1, e2] at h2
    have fr : v ∉ vis := fun z => by
      rw [List.nodup_append] at nd
      exact nd.2.2 v z v (List.mem_cons_self ..) rfl
    have g1' : ¬ ((k : Int) = (a : Int)) := by omega
    have k1 := putKey_i fr
    have k2 := putVal_i fr
    have k3 := memK_i fr
    have k4 : vis.length < 100000 := by omega
    have step : mb (eI n arcs R F a q ps0 vis u (.fz (.int k)) (.fz (.int (dirI d))) z t) = some (.nx (eI n arcs R F a q ps0 (vis ++ [v]) v (.fz (.int k)) (.fz (.int (dirI d))) (.fz (.int u)) (.fz (.int v)))) := by
      rw [hmb]
      simp [eI, g1, g1', h1, h2, k1, k2, k3, k4]
    show (mb (eI n arcs R F a q ps0 vis u (.fz (.int k)) (.fz (.int (dirI d))) z t)).bind _ = _
    rw [step]
    exact gg
theorem is_ring_ok (hn : 1 ≤ n ∧ n ≤ 400) (hl : arcs.length ≤ 1000) (ha : ∀ p ∈ arcs, AOk n p) (hR : R.length = arcs.length) (hF : F.length = arcs.length) (hq : arcs[a]? = some q) {ps : List (Nat × Bool)} {vs : List Int} (hp : Pth arcs R F a ps q.2 q.1 vs) (nd : (q.2 :: vs).Nodup) (hpl : ps.length ≤ 400) :
    m_is_ring [nD n arcs, bD R, bD F, .int a, .lst (((a, true) :: ps).map encP)] = some (.bl true) := by
  unfold m_is_ring callM b_is_ring
  generalize hmb : (mSeq (mIfS (mOr _ (mNot _)) (mRet (mC (.bl false))) mNext) (mSeq (mAsg (gTupM 2 (gsCons (gM 10) _)) _) _)) = mb
  obtain ⟨vis', x', y', z', t', g1⟩ := ring_walk (n := n) (q := q) hl hR hF ps mb hmb.symm hp [q.2] .un .un .un .un nd (by simp; omega)
  have hal : a < arcs.length := (List.getElem?_eq_some_iff.mp hq).1
  have hck := check_ok (n := n) hR hF hal
  have hat := atE (f := encA) hq
  have c1 := cut1 encP (a, true) ps
  show run (mSeq _ _ _) = _
  refine mat_nx [.fz (nD n arcs), .fz (bD R), .fz (bD F), .fz (.int a), .fz (.lst (((a, true) :: ps).map encP)), .un, .un, .un, .un, .un, .un, .un, .un] (by simp [hck]) ?_
  refine mat_nx [.fz (nD n arcs), .fz (bD R), .fz (bD F), .fz (.int a), .fz (.lst (((a, true) :: ps).map encP)), .un, .un, .un, .un, .un, .un, .un, .un] (by simp [encP, pair_sh, pair_eqv]) ?_
  refine mat_nx [.fz (nD n arcs), .fz (bD R), .fz (bD F), .fz (.int a), .fz (.lst (((a, true) :: ps).map encP)), .un, .fz (.int q.1), .fz (.int q.2), .un, .un, .un, .un, .un] (by simp [hat, encA]) ?_
  refine mat_nx (eI n arcs R F a q ps [q.2] q.2 .un .un .un .un) (by simp [eI, kI, tR]) ?_
  refine mat_for (ps.map encP) _ (by simp only [eI]; rw [List.map_cons] at c1; simp [c1]) g1 ?_
  simp [run, eI]
end
end Sx

set_option Elab.async false
set_option linter.all false
set_option maxRecDepth 100000
set_option maxHeartbeats 4000000
namespace Sx
open PySem L2
structure Mks (n : Int) (rs : List Bool) (xs : List Int) : Prop where
  len : rs.length = n.toNat
  mem : ∀ v : Nat, v < n.toNat → (rs.getD v false = true ↔ (v : Int) ∈ xs)
theorem Mks.start {n : Int} : Mks n (List.replicate n.toNat false) [] := ⟨by simp, fun v hv => by
  rw [List.getD_eq_getElem?_getD, List.getElem?_replicate]
  split <;> simp⟩
theorem Mks.add {n : Int} {rs : List Bool} {xs : List Int} (m : Mks n rs xs) {v : Nat} (hv : v < n.toNat) : Mks n (rs.set v true) (xs ++ [(v : Int)]) := ⟨by rw [List.length_set]; exact m.len, fun w hw => by
  rw [List.mem_append, List.mem_singleton, ← m.mem w hw]
  by_cases e : v = w
  · subst e
    rw [List.getD_eq_getElem?_getD, List.getElem?_set_self (by rw [m.len]; exact hv)]
    simp
  · rw [List.getD_eq_getElem?_getD, List.getElem?_set_ne e, ← List.getD_eq_getElem?_getD]
    constructor
    · exact .inl
    · rintro (h | h)
      · exact h
      · omega⟩
theorem Mks.dec {n : Int} {rs : List Bool} {xs : List Int} (m : Mks n rs xs) {v : Nat} (hv : v < n.toNat) : rs.getD v false = decide ((v : Int) ∈ xs) := by
  rw [Bool.eq_iff_iff, decide_eq_true_iff]
  exact m.mem v hv
section
variable {n : Int} {arcs : List (Int × Int)} {R F : List Bool} {a : Nat} {q : Int × Int} {c : List Int}
/-- nodes of the net, rising -/
structure Ris (n : Int) (c : List Int) : Prop where
  rng : ∀ v ∈ c, 0 ≤ v ∧ v < n
  up : ∀ (j : Nat) (x y : Int), c[j]? = some x → c[j + 1]? = some y → x < y
theorem Ris.of (h : ∀ v ∈ c, 0 ≤ v ∧ v < n) (s : c.Pairwise (· < ·)) : Ris n c := ⟨h, fun j x y hx hy => by
  obtain ⟨a1, b1⟩ := List.getElem?_eq_some_iff.mp hx
  obtain ⟨a2, b2⟩ := List.getElem?_eq_some_iff.mp hy
  rw [← b1, ← b2]
  exact List.pairwise_iff_getElem.mp s j (j + 1) a1 a2 (by omega)⟩
theorem Ris.len (h : Ris n c) (hc : c.Nodup) : (c.length : Int) ≤ max n 0 := nodup_le hc h.rng
def eC (n : Int) (arcs : List (Int × Int)) (R F : List Bool) (a : Nat) (c : List Int) (rs : List Bool) (x : Sl) : En :=
  [.fz (.int n), .fz (aD arcs), .fz (pD R F), .fz (.int a), .fz (.lst (c.map .int)), .ow (rs.map .bl), x]
theorem atD {rs : List Bool} {xs : List Int} (m : Mks n rs xs) {v : Int} (hv : 0 ≤ v ∧ v < n) : atI (rs.map D.bl) v = some (.bl (decide (v ∈ xs))) := by
  obtain ⟨w, rfl⟩ : ∃ w : Nat, v = w := ⟨v.toNat, by omega⟩
  rw [atB (by rw [m.len]; omega), m.dec (by omega)]
/-- no step leaves -/
def Shut (arcs : List (Int × Int)) (R F : List Bool) (a : Nat) (c : List Int) : Prop := ∀ u k d v, u ∈ c → G arcs R F a u k d v → v ∈ c
theorem shut_false (sh : Shut arcs R F a c) {k : Nat} {d : Bool} {u v : Int} (st : Stp arcs u k d v) (ka : k ≠ a) (hu : u ∈ c) (hv : v ∉ c) : mayB R F k d = false := by
  cases e : mayB R F k d with
  | false => rfl
  | true => exact absurd (sh u k d v hu ⟨ka, st, mayB_iff.mp e⟩) hv
theorem cut_due_ok (hn : 1 ≤ n ∧ n ≤ 400) (hl : arcs.length ≤ 1000) (ha : ∀ p ∈ arcs, AOk n p) (hR : R.length = arcs.length) (hF : F.length = arcs.length) (hq : arcs[a]? = some q) (ris : Ris n c) (hc : c.length ≤ 1000) (ht : q.1 ∉ c) (hh : q.2 ∈ c) (sh : Shut arcs R F a c) :
    m__law_cut_due [.int n, aD arcs, pD R F, .int a, .lst (c.map .int)] = some (.bl true) := by
  unfold m__law_cut_due callM b__law_cut_due
  generalize hm1 : (mSeq (mIfS (mOr _ (mOr _ (mAnd _ _))) (mRet (mC (.bl false))) mNext) (mSub 5 _ _)) = mb1
  generalize hm2 : (mSeq (mIfS (mAnd _ (mAnd _ (mAnd _ (mNot _)))) (mRet (mC (.bl false))) mNext) (mIfS _ (mRet (mC (.bl false))) mNext)) = mb2
  obtain ⟨E1, g1, rs, x, rfl, mk⟩ := runFor_inv (mg := gM 6) (mb := mb1) (fun j E => ∃ rs x, E = eC n arcs R F a c rs x ∧ Mks n rs (c.take j)) (rangeD 0 c.length) 0 (eC n arcs R F a c (List.replicate n.toNat false) .un) ⟨_, _, rfl, Mks.start⟩ (fun j d E hd hI => by
    simp only [Nat.zero_add] at hI ⊢
    obtain ⟨rs, x, rfl, mk⟩ := hI
    obtain ⟨rfl, hj⟩ := range_at hd
    rw [Int.zero_add]
    obtain ⟨v, hv⟩ : ∃ v, c[j]? = some v := ⟨_, List.getElem?_eq_getElem hj⟩
    obtain ⟨w, rfl⟩ : ∃ w : Nat, v = w := ⟨v.toNat, by have := ris.rng v (List.mem_of_getElem? hv); omega⟩
    have vr := ris.rng (w : Int) (List.mem_of_getElem? hv)
    have hat := atE (f := D.int) hv
    have v0 : ¬ ((w : Int) < 0) := by omega
    have v1 : ¬ (n ≤ (w : Int)) := by omega
    have hix : ixN rs.length (w : Int) = some w := ixN_nat (by rw [mk.len]; omega)
    have tk : c.take (j + 1) = c.take j ++ [(w : Int)] := by
      rw [List.take_add_one, hv]
      rfl
    refine ⟨_, _, rfl, .inl ?_, rs.set w true, .fz (.int j), rfl, by rw [tk]; exact mk.add (by omega)⟩
    subst hm1
    by_cases j0 : 0 < j
    · obtain ⟨u, hu⟩ : ∃ u, c[j - 1]? = some u := ⟨_, List.getElem?_eq_getElem (by omega)⟩
      have hup := ris.up (j - 1) u w hu (by rw [show j - 1 + 1 = j by omega]; exact hv)
      have hat2 := atE (f := D.int) hu
      have e1 : ((j - 1 : Nat) : Int) = (j : Int) - 1 := by omega
      rw [e1] at hat2
      have v2 : ¬ ((w : Int) ≤ u) := by omega
      have j0' : (0 : Int) < j := by omega
      simp [eC, hat, v0, v1, j0, j0', hat2, v2, hix]
    · have : j = 0 := by omega
      subst this
      have hat0 : atI (c.map D.int) 0 = some (.int w) := hat
      simp [eC, hat0, v0, v1, hix])
  rw [Nat.zero_add, rangeD_len, List.take_length] at mk
  have hat := atE (f := encA) hq
  have hqr := ha q (List.mem_of_getElem? hq)
  have dt := atD mk hqr.2.1
  have dh := atD mk hqr.2.2
  rw [decide_eq_false ht] at dt
  rw [decide_eq_true hh] at dh
  obtain ⟨E2, g2, y, rfl⟩ := runFor_inv (mg := gM 6) (mb := mb2) (fun j E => ∃ x, E = eC n arcs R F a c rs x) (rangeD 0 arcs.length) 0 (eC n arcs R F a c rs x) ⟨_, rfl⟩ (fun j d E hd hI => by
    obtain ⟨x, rfl⟩ := hI
    obtain ⟨rfl, hj⟩ := range_at hd
    rw [Int.zero_add]
    obtain ⟨p, hp⟩ : ∃ p, arcs[j]? = some p := ⟨_, List.getElem?_eq_getElem hj⟩
    have hpr := ha p (List.mem_of_getElem? hp)
    have hatp := atE (f := encA) hp
    have hr := atB (bs := R) (k := j) (by omega)
    have hf := atB (bs := F) (k := j) (by omega)
    have d1 := atD mk hpr.2.1
    have d2 := atD mk hpr.2.2
    refine ⟨_, _, rfl, .inl ?_, .fz (.int j), rfl⟩
    subst hm2
    by_cases ja : j = a
    · subst ja
      simp [eC]
    · have ja' : ¬ ((j : Int) = (a : Int)) := by omega
      by_cases s1 : p.1 ∈ c <;> by_cases s2 : p.2 ∈ c
      · cases e1 : R.getD j false <;> cases e2 : F.getD j false <;> rw [e1] at hr <;> rw [e2] at hf <;> simp [eC, ja, ja', pD, aD, hr, hf, hatp, encA, d1, d2, s1, s2]
      · have e1 : R.getD j false = false := by
          have := shut_false sh (k := j) (d := true) (u := p.1) (v := p.2) ⟨p, hp, by simp⟩ ja s1 s2
          simpa [mayB] using this
        rw [e1] at hr
        cases e2 : F.getD j false <;> rw [e2] at hf <;> simp [eC, ja, ja', pD, aD, hr, hf, hatp, encA, d1, d2, s1, s2]
      · have e2 : F.getD j false = false := by
          have := shut_false sh (k := j) (d := false) (u := p.2) (v := p.1) ⟨p, hp, by simp⟩ ja s2 s1
          simpa [mayB] using this
        rw [e2] at hf
        cases e1 : R.getD j false <;> rw [e1] at hr <;> simp [eC, ja, ja', pD, aD, hr, hf, hatp, encA, d1, d2, s1, s2]
      · cases e1 : R.getD j false <;> cases e2 : F.getD j false <;> rw [e1] at hr <;> rw [e2] at hf <;> simp [eC, ja, ja', pD, aD, hr, hf, hatp, encA, d1, d2, s1, s2])
  have n1 : n ≤ 100000 := by omega
  have n2 : -100000 ≤ n := by omega
  have hz : n.toNat ≤ 100000 := by omega
  show run (mSeq _ _ _) = _
  refine mat_nx (eC n arcs R F a c (List.replicate n.toNat false) .un) (by simp [eC, n1, n2, hz, rep_one]) ?_
  refine mat_for (rangeD 0 c.length) _ (by simp [eC]; omega) g1 ?_
  refine mat_nx (eC n arcs R F a c rs x) (by simp [eC, aD, hat, encA, dt, dh]) ?_
  refine mat_for (rangeD 0 arcs.length) _ (by simp [eC, aD]; omega) g2 ?_
  simp [run, eC]
/-! crossing -/
def eX (n : Int) (arcs : List (Int × Int)) (c : List Int) (rs : List Bool) (x : Sl) (o : Sl) (y z w : Sl) : En :=
  [.fz (nD n arcs), .fz (.lst (c.map .int)), .ow (rs.map .bl), x, o, y, z, w]
theorem crossing_ok (hn : 1 ≤ n ∧ n ≤ 400) (hl : arcs.length ≤ 1000) (ha : ∀ p ∈ arcs, AOk n p) (hc : ∀ v ∈ c, 0 ≤ v ∧ v < n) :
    ∃ cs : List (Nat × Bool), m_crossing [nD n arcs, .lst (c.map .int)] = some (.lst (cs.map encP)) ∧ ∀ t ∈ cs, t.1 < arcs.length ∧ ∃ u v, Stp arcs u t.1 t.2 v ∧ u ∈ c ∧ v ∉ c := by
  unfold m_crossing callM b_crossing
  generalize hm1 : (mSub 2 (mC (.bl true)) (mVar 3)) = mb1
  generalize hm2 : (mSeq (mIfS (mAnd _ (mNot _)) (mApp 4 _) mNext) (mIfS (mAnd _ (mNot _)) (mApp 4 _) mNext)) = mb2
  obtain ⟨E1, g1, rs, x, rfl, mk⟩ := runFor_inv (mg := gM 3) (mb := mb1) (fun j E => ∃ rs x, E = eX n arcs c rs x .un .un .un .un ∧ Mks n rs (c.take j)) (c.map .int) 0 (eX n arcs c (List.replicate n.toNat false) .un .un .un .un .un) ⟨_, _, rfl, Mks.start⟩ (fun j d E hd hI => by
    simp only [Nat.zero_add] at hI ⊢
    obtain ⟨rs, x, rfl, mk⟩ := hI
    obtain ⟨v, rfl, hv⟩ := ints_at hd
    obtain ⟨w, rfl⟩ : ∃ w : Nat, v = w := ⟨v.toNat, by have := hc v (List.mem_of_getElem? hv); omega⟩
    have vr := hc (w : Int) (List.mem_of_getElem? hv)
    have hix : ixN rs.length (w : Int) = some w := ixN_nat (by rw [mk.len]; omega)
    have tk : c.take (j + 1) = c.take j ++ [(w : Int)] := by
      rw [List.take_add_one, hv]
      rfl
    refine ⟨_, _, rfl, .inl ?_, rs.set w true, .fz (.int w), rfl, by rw [tk]; exact mk.add (by omega)⟩
    subst hm1
    simp [eX, hix])
  rw [Nat.zero_add, List.length_map, List.take_length] at mk
  obtain ⟨E2, g2, cs, y, z, w, rfl, q1, q2⟩ := runFor_inv (mg := gTupM 2 (gsCons (gM 5) (gsCons (gTupM 2 (gsCons (gM 6) (gsCons (gM 7) gsNil))) gsNil))) (mb := mb2)
    (fun j E => ∃ (cs : List (Nat × Bool)) (y z w : Sl), E = eX n arcs c rs x (.ow (cs.map encP)) y z w ∧ (∀ t ∈ cs, t.1 < arcs.length ∧ ∃ u v, Stp arcs u t.1 t.2 v ∧ u ∈ c ∧ v ∉ c) ∧ cs.length ≤ j) (enumD 0 (arcs.map encA)) 0 (eX n arcs c rs x (.ow []) .un .un .un) ⟨[], _, _, _, rfl, fun t h => (nomatch h), Nat.le_refl _⟩ (fun j d E hd hI => by
      simp only [Nat.zero_add] at hI ⊢
      obtain ⟨cs, y, z, w, rfl, q1, q2⟩ := hI
      rw [enumD_get] at hd
      obtain ⟨dd, hdd, rfl⟩ := map_some hd
      obtain ⟨p, rfl, hp⟩ := map_at hdd
      have hpr := ha p (List.mem_of_getElem? hp)
      have hj : j < arcs.length := (List.getElem?_eq_some_iff.mp hp).1
      have d1 := atD mk hpr.2.1
      have d2 := atD mk hpr.2.2
      have cl : cs.length < 100000 := by omega
      by_cases s1 : p.1 ∈ c <;> by_cases s2 : p.2 ∈ c
      · refine ⟨_, _, rfl, .inl ?_, cs, .fz (.int j), .fz (.int p.1), .fz (.int p.2), rfl, q1, by omega⟩
        subst hm2
        simp [eX, encA, d1, d2, s1, s2]
      · refine ⟨_, _, rfl, .inl ?_, cs ++ [(j, true)], .fz (.int j), .fz (.int p.1), .fz (.int p.2), rfl, fun t h => ?_, by rw [List.length_append, List.length_singleton]; omega⟩
        · subst hm2
          simp [eX, encA, encP, d1, d2, s1, s2, cl]
        · rcases List.mem_append.mp h with h | h
          · exact q1 t h
          · rw [List.mem_singleton.mp h]
            exact ⟨hj, p.1, p.2, ⟨p, hp, by simp⟩, s1, s2⟩
      · refine ⟨_, _, rfl, .inl ?_, cs ++ [(j, false)], .fz (.int j), .fz (.int p.1), .fz (.int p.2), rfl, fun t h => ?_, by rw [List.length_append, List.length_singleton]; omega⟩
        · subst hm2
          simp [eX, encA, encP, d1, d2, s1, s2, cl]
        · rcases List.mem_append.mp h with h | h
          · exact q1 t h
          · rw [List.mem_singleton.mp h]
            exact ⟨hj, p.2, p.1, ⟨p, hp, by simp⟩, s2, s1⟩
      · refine ⟨_, _, rfl, .inl ?_, cs, .fz (.int j), .fz (.int p.1), .fz (.int p.2), rfl, q1, by omega⟩
        subst hm2
        simp [eX, encA, d1, d2, s1, s2])
  have n1 : n ≤ 100000 := by omega
  have n2 : -100000 ≤ n := by omega
  have hz : n.toNat ≤ 100000 := by omega
  refine ⟨cs, ?_, q1⟩
  show run (mSeq _ _ _) = _
  refine mat_nx (eX n arcs c (List.replicate n.toNat false) .un .un .un .un .un) (by simp [eX, n1, n2, hz, rep_one]) ?_
  refine mat_for (c.map .int) _ (by simp [eX]) g1 ?_
  refine mat_nx (eX n arcs c rs x (.ow []) .un .un .un) (by simp [eX]) ?_
  refine mat_for (enumD 0 (arcs.map encA)) _ (by simp [eX]) g2 ?_
  simp [run, eX]
end
end Sx

set_option Elab.async false
set_option linter.all false
set_option maxRecDepth 100000
set_option maxHeartbeats 4000000
namespace Sx
open PySem L2
theorem kit_tt : kitB "tuple" "tuple" = some true := by decide +kernel
theorem kit_ss : kitB "str" "str" = some true := by decide +kernel
theorem kit_ll : kitB "list" "list" = some true := by decide +kernel
theorem ne_cr : ¬ (("cut" : Str) = "ring") := by decide +kernel
theorem ne_rc : ¬ (("ring" : Str) = "cut") := by decide +kernel
theorem num_ok (i : Int) : m__law_is_number [.int i] = some (.bl true) := by
  unfold m__law_is_number callM b__law_is_number
  simp [kit_ii, kit_ib]
theorem same_ok (x y : Bool) : m__law_same [.bl x, .bl y] = some (.bl (decide (x = y))) := by
  unfold m__law_same callM b__law_same
  simp [kit_bb]
section
variable {n : Int} {arcs : List (Int × Int)} {R F : List Bool} {a : Nat} {q : Int × Int} {c : List Int}
def eU (n : Int) (arcs : List (Int × Int)) (R F : List Bool) (a : Nat) (c : List Int) (x y z w u v : Sl) : En :=
  [.fz (nD n arcs), .fz (bD R), .fz (bD F), .fz (.int a), .fz (.lst (c.map .int)), x, y, z, w, u, v]
theorem is_cut_ok (hn : 1 ≤ n ∧ n ≤ 400) (hl : arcs.length ≤ 1000) (ha : ∀ p ∈ arcs, AOk n p) (hR : R.length = arcs.length) (hF : F.length = arcs.length) (hq : arcs[a]? = some q) (ris : Ris n c) (hc : c.length ≤ 1000) (hh : q.2 ∈ c) (sh : Shut arcs R F a c) :
    m_is_cut [nD n arcs, bD R, bD F, .int a, .lst (c.map .int)] = some (.bl (decide (q.1 ∉ c))) := by
  unfold m_is_cut callM b_is_cut
  generalize hm1 : (mIfS (mOr (mNot _) (mAnd _ _)) (mRet (mC (.bl false))) mNext) = mb1
  generalize hm2 : (mIfS (mAnd (fun E => ((mBin neD (mVarT 9) (mVarT 3)) E).bind blOf) _) (mRet (mC (.bl false))) mNext) = mb2
  have hal : a < arcs.length := (List.getElem?_eq_some_iff.mp hq).1
  have hck := check_ok (n := n) hR hF hal
  have hat := atE (f := encA) hq
  have haI := allI c
  obtain ⟨E1, g1, x, y, rfl⟩ := runFor_inv (mg := gTupM 2 (gsCons (gM 5) (gsCons (gM 6) gsNil))) (mb := mb1) (fun j E => ∃ x y, E = eU n arcs R F a c x y .un .un .un .un) (enumD 0 (c.map .int)) 0 (eU n arcs R F a c .un .un .un .un .un .un) ⟨_, _, rfl⟩ (fun j d E hd hI => by
    obtain ⟨x, y, rfl⟩ := hI
    rw [enumD_get] at hd
    obtain ⟨dd, hdd, rfl⟩ := map_some hd
    obtain ⟨v, rfl, hv⟩ := ints_at hdd
    rw [Nat.zero_add]
    have vr := ris.rng v (List.mem_of_getElem? hv)
    have hj : j < c.length := (List.getElem?_eq_some_iff.mp hv).1
    refine ⟨_, _, rfl, .inl ?_, .fz (.int j), .fz (.int v), rfl⟩
    subst hm1
    by_cases j0 : 0 < j
    · obtain ⟨u, hu⟩ : ∃ u, c[j - 1]? = some u := ⟨_, List.getElem?_eq_getElem (by omega)⟩
      have hup := ris.up (j - 1) u v hu (by rw [show j - 1 + 1 = j by omega]; exact hv)
      have hat2 := atE (f := D.int) hu
      have e1 : ((j - 1 : Nat) : Int) = (j : Int) - 1 := by omega
      rw [e1] at hat2
      have v2 : ¬ (v ≤ u) := by omega
      simp [eU, vr.1, vr.2, j0, hat2, v2]
    · have : j = 0 := by omega
      subst this
      simp [eU, vr.1, vr.2])
  have z2 : (mIfS (mOr (fun E => ((mBin notInD (mVarT 8) (mVarT 4)) E).bind blOf) (fun E => ((mBin inD (mVarT 7) (mVarT 4)) E).bind blOf)) (mRet (mC (.bl false))) mNext) (eU n arcs R F a c x y (.fz (.int q.1)) (.fz (.int q.2)) .un .un) = if q.1 ∈ c then some (.rt (.bl false)) else some (.nx (eU n arcs R F a c x y (.fz (.int q.1)) (.fz (.int q.2)) .un .un)) := by
    by_cases ht : q.1 ∈ c
    · simp [eU, haI, hh, ht]
    · simp [eU, haI, hh, ht]
  show run (mSeq _ _ _) = _
  refine mat_nx (eU n arcs R F a c .un .un .un .un .un .un) (by simp [eU, hck]) ?_
  refine mat_for (enumD 0 (c.map .int)) _ (by simp [eU]) g1 ?_
  refine mat_nx (eU n arcs R F a c x y (.fz (.int q.1)) (.fz (.int q.2)) .un .un) (by simp [eU, hat, encA]) ?_
  by_cases ht : q.1 ∈ c
  · rw [if_pos ht] at z2
    rw [seq_rt z2, decide_eq_false (fun z => z ht)]
    rfl
  · rw [if_neg ht] at z2
    refine mat_nx _ z2 ?_
    rw [decide_eq_true ht]
    obtain ⟨cs, c1, c2⟩ := crossing_ok (n := n) (c := c) hn hl ha ris.rng
    obtain ⟨E2, g2, u, v, rfl⟩ := runFor_inv (mg := gTupM 2 (gsCons (gM 9) (gsCons (gM 10) gsNil))) (mb := mb2) (fun j E => ∃ u v, E = eU n arcs R F a c x y (.fz (.int q.1)) (.fz (.int q.2)) u v) (cs.map encP) 0 (eU n arcs R F a c x y (.fz (.int q.1)) (.fz (.int q.2)) .un .un) ⟨_, _, rfl⟩ (fun j d E hd hI => by
      obtain ⟨u, v, rfl⟩ := hI
      obtain ⟨⟨k, d⟩, rfl, ht'⟩ := map_at hd
      obtain ⟨hk, s, t, s1, s2, s3⟩ := c2 (k, d) (List.mem_of_getElem? ht')
      have h1 := may_ok (n := n) hR hF hk d
      refine ⟨_, _, rfl, .inl ?_, .fz (.int k), .fz (.int (dirI d)), rfl⟩
      subst hm2
      by_cases ka : k = a
      · subst ka
        simp [eU, encP]
      · have ka' : ¬ ((k : Int) = (a : Int)) := by omega
        rw [shut_false sh s1 ka s2 s3] at h1
        simp [eU, encP, ka, ka', h1])
    refine mat_for (cs.map encP) _ (by simp [eU, c1]) g2 ?_
    simp [run, eU]
/-! what was told -/
def rgD (a : Nat) (ps : List (Nat × Bool)) : D := .tup [.str "ring", .lst (((a, true) :: ps).map encP)]
def ctD (c : List Int) : D := .tup [.str "cut", .lst (c.map .int)]
def eT (n : Int) (arcs : List (Int × Int)) (R F : List Bool) (a : Nat) (due : Str) (t : D) (x y : Sl) : En :=
  [.fz (.int n), .fz (aD arcs), .fz (pD R F), .fz (.int a), .fz (.str due), .fz t, x, y]
theorem told_ring (hn : 1 ≤ n ∧ n ≤ 400) (hl : arcs.length ≤ 1000) (ha : ∀ p ∈ arcs, AOk n p) (hR : R.length = arcs.length) (hF : F.length = arcs.length) (hq : arcs[a]? = some q) {ps : List (Nat × Bool)} {vs : List Int} (hp : Pth arcs R F a ps q.2 q.1 vs) (nd : (q.2 :: vs).Nodup) (hpl : ps.length ≤ 400) :
    m__law_told_right [.int n, aD arcs, pD R F, .int a, .str "ring", rgD a ps] = some (.bl true) := by
  have hd := ring_due_ok hn hl ha hR hF hq hp nd hpl
  unfold m__law_told_right callM b__law_told_right
  generalize hm1 : (mSeq (mIfS (mOr (mNot (fun E => ((mUn (isiD "tuple") (mVarT 7)) E).bind truD)) _) (mRet (mC (.bl false))) mNext) _) = mb1
  obtain ⟨E1, g1, y, rfl⟩ := runFor_inv (mg := gM 7) (mb := mb1) (fun j E => ∃ y, E = eT n arcs R F a "ring" (rgD a ps) .un y) (((a, true) :: ps).map encP) 0 (eT n arcs R F a "ring" (rgD a ps) .un .un) ⟨_, rfl⟩ (fun j d E hd hI => by
    obtain ⟨y, rfl⟩ := hI
    obtain ⟨⟨k, d⟩, rfl, _⟩ := map_at hd
    refine ⟨_, _, rfl, .inl ?_, .fz (encP (k, d)), rfl⟩
    subst hm1
    simp [eT, encP, kit_tt, num_ok])
  show run (mSeq _ _ _) = _
  refine mat_nx (eT n arcs R F a "ring" (rgD a ps) .un .un) (by simp [eT, rgD, kit_tt, kit_ss]) ?_
  refine mat_nx (eT n arcs R F a "ring" (rgD a ps) .un .un) (by simp [eT, rgD, kit_ll]) ?_
  have : (mIfS (fun E => ((mBin eqD (mVarT 4) (mC (.str "ring"))) E).bind blOf) (mSeq (mFor (fun E => ((mBin ixD (mVarT 5) (mC (.int 1))) E).bind lstOf) (gM 7) mb1)
      (mRet (mCall 4 m__law_ring_due (mCons (mVar 1) (mCons (mVar 2) (mCons (mVar 3) (mCons (mBin ixD (mVarT 5) (mC (.int 1))) mNil))))))) mNext) (eT n arcs R F a "ring" (rgD a ps) .un .un) = some (.rt (.bl true)) := by
    have h2 : (fun E => ((mBin ixD (mVarT 5) (mC (.int 1))) E).bind lstOf) (eT n arcs R F a "ring" (rgD a ps) .un .un) = some (((a, true) :: ps).map encP) := by simp [eT, rgD]
    have h3 : (mFor (fun E => ((mBin ixD (mVarT 5) (mC (.int 1))) E).bind lstOf) (gM 7) mb1) (eT n arcs R F a "ring" (rgD a ps) .un .un) = some (.nx (eT n arcs R F a "ring" (rgD a ps) .un y)) := by
      unfold mFor
      rw [h2]
      exact g1
    have h4 : (mIfS (fun E => ((mBin eqD (mVarT 4) (mC (.str "ring"))) E).bind blOf) (mSeq (mFor (fun E => ((mBin ixD (mVarT 5) (mC (.int 1))) E).bind lstOf) (gM 7) mb1)
      (mRet (mCall 4 m__law_ring_due (mCons (mVar 1) (mCons (mVar 2) (mCons (mVar 3) (mCons (mBin ixD (mVarT 5) (mC (.int 1))) mNil))))))) mNext) (eT n arcs R F a "ring" (rgD a ps) .un .un) = (mSeq (mFor (fun E => ((mBin ixD (mVarT 5) (mC (.int 1))) E).bind lstOf) (gM 7) mb1)
      (mRet (mCall 4 m__law_ring_due (mCons (mVar 1) (mCons (mVar 2) (mCons (mVar 3) (mCons (mBin ixD (mVarT 5) (mC (.int 1))) mNil))))))) (eT n arcs R F a "ring" (rgD a ps) .un .un) := by
      have h0 : (fun E => ((mBin eqD (mVarT 4) (mC (.str "ring"))) E).bind blOf) (eT n arcs R F a "ring" (rgD a ps) .un .un) = some true := by simp [eT]
      unfold mIfS
      rw [h0]
      rfl
    rw [h4, seq_nx _ h3]
    rw [List.map_cons] at hd
    simp [eT, rgD, hd]
  rw [seq_rt this]
  rfl
theorem told_cut (hn : 1 ≤ n ∧ n ≤ 400) (hl : arcs.length ≤ 1000) (ha : ∀ p ∈ arcs, AOk n p) (hR : R.length = arcs.length) (hF : F.length = arcs.length) (hq : arcs[a]? = some q) (ris : Ris n c) (hc : c.length ≤ 1000) (ht : q.1 ∉ c) (hh : q.2 ∈ c) (sh : Shut arcs R F a c) :
    m__law_told_right [.int n, aD arcs, pD R F, .int a, .str "cut", ctD c] = some (.bl true) := by
  have hd := cut_due_ok hn hl ha hR hF hq ris hc ht hh sh
  unfold m__law_told_right callM b__law_told_right
  generalize hm1 : (mIfS (mNot (fun E => ((mCall 1 m__law_is_number (mCons (mVar 6) mNil)) E).bind truD)) (mRet (mC (.bl false))) mNext) = mb1
  obtain ⟨E1, g1, x, rfl⟩ := runFor_inv (mg := gM 6) (mb := mb1) (fun j E => ∃ x, E = eT n arcs R F a "cut" (ctD c) x .un) (c.map .int) 0 (eT n arcs R F a "cut" (ctD c) .un .un) ⟨_, rfl⟩ (fun j d E hd hI => by
    obtain ⟨x, rfl⟩ := hI
    obtain ⟨v, rfl, _⟩ := ints_at hd
    refine ⟨_, _, rfl, .inl ?_, .fz (.int v), rfl⟩
    subst hm1
    simp [eT, num_ok])
  show run (mSeq _ _ _) = _
  refine mat_nx (eT n arcs R F a "cut" (ctD c) .un .un) (by simp [eT, ctD, kit_tt, kit_ss]) ?_
  refine mat_nx (eT n arcs R F a "cut" (ctD c) .un .un) (by simp [eT, ctD, kit_ll]) ?_
  refine mat_nx (eT n arcs R F a "cut" (ctD c) .un .un) (by simp [eT, ctD, ne_cr]) ?_
  refine mat_for (c.map .int) _ (by simp [eT, ctD]) g1 ?_
  simp [run, eT, ctD, hd]
end
end Sx

set_option Elab.async false
set_option linter.all false
set_option maxRecDepth 100000
set_option maxHeartbeats 8000000
namespace Sx
open PySem L2
theorem nols_map {α : Type} {f : α → D} (h : ∀ x, nol (f x) = true) : ∀ xs : List α, nols (xs.map f) = true
  | [] => rfl
  | x :: xs => by
    rw [List.map_cons, nols, h x, nols_map h xs]
    rfl
@[simp] theorem nols_P (ps : List (Nat × Bool)) : nols (ps.map encP) = true := nols_map (fun x => by simp [encP]) ps
@[simp] theorem nols_I (ps : List Int) : nols (ps.map D.int) = true := nols_map (fun x => by simp) ps
@[simp] theorem nol_P (p : Nat × Bool) : nol (encP p) = true := by simp [encP]
theorem sort_ris {n : Int} {ns : List Int} (nd : ns.Nodup) (h : ∀ v ∈ ns, 0 ≤ v ∧ v < n) : Ris n (sortI ns) := by
  have sp := sortI_perm ns
  have snd : (sortI ns).Nodup := sp.nodup_iff.mpr nd
  have sl := sortI_le ns
  refine Ris.of (fun v hv => h v (sp.mem_iff.mp hv)) ?_
  rw [List.pairwise_iff_getElem] at sl ⊢
  intro i j hi hj hij
  have h1 := sl i j hi hj hij
  have h2 : (sortI ns)[i] ≠ (sortI ns)[j] := fun z => by
    have := (List.getElem_inj snd).mp z
    omega
  omega
def ndsI (n : Int) (rs : List Bool) : List Int := ((List.range n.toNat).filter fun i => rs.getD i false).map fun (i : Nat) => (i : Int)
theorem nds_mem {n : Int} {rs : List Bool} {v : Int} : v ∈ ndsI n rs ↔ ∃ i : Nat, i < n.toNat ∧ rs.getD i false = true ∧ v = i := by
  unfold ndsI
  rw [List.mem_map]
  constructor
  · rintro ⟨i, h, rfl⟩
    obtain ⟨h1, h2⟩ := List.mem_filter.mp h
    exact ⟨i, List.mem_range.mp h1, h2, rfl⟩
  · rintro ⟨i, h1, h2, rfl⟩
    exact ⟨i, List.mem_filter.mpr ⟨List.mem_range.mpr h1, h2⟩, rfl⟩
theorem nds_ris {n : Int} {rs : List Bool} : Ris n (ndsI n rs) := by
  refine Ris.of (fun v hv => ?_) ?_
  · obtain ⟨i, h1, _, rfl⟩ := nds_mem.mp hv
    omega
  · unfold ndsI
    rw [List.pairwise_map]
    refine List.Pairwise.imp (fun h => ?_) (List.Pairwise.filter _ List.pairwise_lt_range)
    omega
theorem nds_len {n : Int} {rs : List Bool} (hn : n ≤ 400) : (ndsI n rs).length ≤ 1000 := by
  unfold ndsI
  rw [List.length_map]
  have := List.length_filter_le (fun i => rs.getD i false) (List.range n.toNat)
  rw [List.length_range] at this
  omega
section
variable {n : Int} {arcs : List (Int × Int)} {R F : List Bool} {a : Nat} {q : Int × Int}
theorem bls_eq (R : List Bool) : eqB (bD R) (bD R) = some true := eqB_map (f := D.bl) (fun x _ => rfl) (fun x _ => by simp [depD])
theorem bls_eqD (R : List Bool) : mBin eqD (mC (bD R)) (mC (bD R)) [] = some (.bl true) := by
  show (eqB (bD R) (bD R)).map D.bl = _
  rw [bls_eq]
  rfl
def eA (n : Int) (arcs : List (Int × Int)) (R F : List Bool) (a : Nat) (rs : List Bool) (due : Str) (t k nd : Sl) : En :=
  [.fz (nD n arcs), .fz (.int n), .fz (aD arcs), .fz (pD R F), .fz (.int a), .fz (bD rs), .fz (.lst ((ndsI n rs).map .int)), .fz (.str due), .fz (bD R), .fz (bD F), t, k, .un, nd]
theorem asked2 (rs : List Bool) (due : Str) (hdue : due = "ring" ∨ due = "cut") (T : List D) (hnT : nols T = true) (p4 : mT_ring_or_cut [nD n arcs, bD R, bD F, .int a] = some (.str due, T))
    (hto : m__law_told_right [.int n, aD arcs, pD R F, .int a, .str due, .tup [.str due, .lst T]] = some (.bl true)) (hA : due = "ring" → m_is_ring [nD n arcs, bD R, bD F, .int a, .lst T] = some (.bl true)) (hB : due = "cut" → m_is_cut [nD n arcs, bD R, bD F, .int a, .lst T] = some (.bl true))
    (hic : m_is_cut [nD n arcs, bD R, bD F, .int a, .lst ((ndsI n rs).map .int)] = some (.bl (decide (due = "cut")))) :
    run (mSeq (mSetTF 10 13 (mCallTFL 4 mT_ring_or_cut (mCons (mVar 0) (mCons (mVar 8) (mCons (mVar 9) (mCons (mVar 4) mNil))))))
      (mSeq (mIfS (mNot (fun E => ((mCallT 6 m__law_told_right (mCons (mVarT 1) (mCons (mVarT 2) (mCons (mVarT 3) (mCons (mVarT 4) (mCons (mVarT 7) (mCons (mVarV 10) mNil))))))) E).bind truD)) (mRet (mC (.bl false))) mNext)
      (mSeq (mSetRix 11 10 1)
      (mSeq (mIfS (mAnd (fun E => ((mBin eqD (mVarT 7) (mC (.str "ring"))) E).bind blOf) (mNot (fun E => ((mCall 2 m__law_same (mCons (mCall 5 m_is_ring (mCons (mVar 0) (mCons (mVar 8) (mCons (mVar 9) (mCons (mVar 4) (mCons (mList (fun E => ((mVarT 11) E).bind seqOf)) mNil)))))) (mCons (mC (.bl true)) mNil))) E).bind truD))) (mRet (mC (.bl false))) mNext)
      (mSeq (mIfS (mAnd (fun E => ((mBin eqD (mVarT 7) (mC (.str "cut"))) E).bind blOf) (mNot (fun E => ((mCall 2 m__law_same (mCons (mCall 5 m_is_cut (mCons (mVar 0) (mCons (mVar 8) (mCons (mVar 9) (mCons (mVar 4) (mCons (mList (fun E => ((mVarT 11) E).bind seqOf)) mNil)))))) (mCons (mC (.bl true)) mNil))) E).bind truD))) (mRet (mC (.bl false))) mNext)
      (mSeq (mIfS (mNot (fun E => ((mCall 2 m__law_same (mCons (mCall 5 m_is_cut (mCons (mVar 0) (mCons (mVar 8) (mCons (mVar 9) (mCons (mVar 4) (mCons (mVar 6) mNil)))))) (mCons (mBin eqD (mVarT 7) (mC (.str "cut"))) mNil))) E).bind truD)) (mRet (mC (.bl false))) mNext)
      (mSeq (mClear 11)
      (mSeq (mIfS (mNot (fun E => ((mCall 6 m__law_told_right (mCons (mVar 1) (mCons (mVar 2) (mCons (mVar 3) (mCons (mVar 4) (mCons (mVar 7) (mCons (fun E => ((mCallTFL 4 mT_ring_or_cut (mCons (mVar 0) (mCons (mVar 8) (mCons (mVar 9) (mCons (mVar 4) mNil))))) E).map tfD) mNil))))))) E).bind truD)) (mRet (mC (.bl false))) mNext)
      (mRet (mAndV (mBin eqD (mVarT 8) (mBin ixD (mVarT 3) (mC (.int 0)))) (mBin eqD (mVarT 9) (mBin ixD (mVarT 3) (mC (.int 1)))))))))))))
      (eA n arcs R F a rs due .un .un .un)) = some (.bl true) := by
  have fin : ∀ (due : Str) (t k nd : Sl), run (mRet (mAndV (mBin eqD (mVarT 8) (mBin ixD (mVarT 3) (mC (.int 0)))) (mBin eqD (mVarT 9) (mBin ixD (mVarT 3) (mC (.int 1))))) (eA n arcs R F a rs due t k nd)) = some (.bl true) := fun due t k nd => by
    have h1 : (mBin eqD (mVarT 8) (mBin ixD (mVarT 3) (mC (.int 0)))) (eA n arcs R F a rs due t k nd) = some (.bl true) := by
      have := bls_eqD R
      exact this
    have h2 : (mBin eqD (mVarT 9) (mBin ixD (mVarT 3) (mC (.int 1)))) (eA n arcs R F a rs due t k nd) = some (.bl true) := by
      have := bls_eqD F
      exact this
    unfold mRet mAndV
    rw [h1]
    show run (((some (D.bl true)).bind _).map _) = _
    simp only [Option.bind_some, truD, if_true]
    rw [h2]
    rfl
  refine mat_nx (eA n arcs R F a rs due (.rt (.tp [.fz (.str due), .rf 13])) .un (.nd (.lst (T.map .fz)))) (by simp [eA, p4, hnT]) ?_
  refine mat_nx (eA n arcs R F a rs due (.rt (.tp [.fz (.str due), .rf 13])) .un (.nd (.lst (T.map .fz)))) (by simp [eA, hto, nolst, closeds_fz]) ?_
  refine mat_nx (eA n arcs R F a rs due (.rt (.tp [.fz (.str due), .rf 13])) (.rt (.rf 13)) (.nd (.lst (T.map .fz)))) (by simp [eA]) ?_
  refine mat_nx (eA n arcs R F a rs due (.rt (.tp [.fz (.str due), .rf 13])) (.rt (.rf 13)) (.nd (.lst (T.map .fz)))) (by
    rcases hdue with rfl | rfl
    · simp [eA, hA rfl, closeds_fz, same_ok]
    · simp [eA, ne_cr]) ?_
  refine mat_nx (eA n arcs R F a rs due (.rt (.tp [.fz (.str due), .rf 13])) (.rt (.rf 13)) (.nd (.lst (T.map .fz)))) (by
    rcases hdue with rfl | rfl
    · simp [eA, ne_rc]
    · simp [eA, hB rfl, closeds_fz, same_ok]) ?_
  refine mat_nx (eA n arcs R F a rs due (.rt (.tp [.fz (.str due), .rf 13])) (.rt (.rf 13)) (.nd (.lst (T.map .fz)))) (by simp [eA, hic, same_ok]) ?_
  refine mat_nx (eA n arcs R F a rs due (.rt (.tp [.fz (.str due), .rf 13])) (.rt (.rf 13)) (.nd (.lst []))) (by simp [eA]) ?_
  refine mat_nx (eA n arcs R F a rs due (.rt (.tp [.fz (.str due), .rf 13])) (.rt (.rf 13)) (.nd (.lst []))) (by simp [eA, p4, hnT, hto]) ?_
  exact fin _ _ _ _
theorem asked_ok (hn : 1 ≤ n ∧ n ≤ 400) (hl : arcs.length ≤ 1000) (ha : ∀ p ∈ arcs, AOk n p) (hR : R.length = arcs.length) (hF : F.length = arcs.length) (hq : arcs[a]? = some q) :
    m__law_asked_right [nD n arcs, .int n, aD arcs, pD R F, .int a] = some (.bl true) := by
  obtain ⟨rs, r1, r2, r3⟩ := reached_ok hn hl ha hR hF hq
  have hqr := ha q (List.mem_of_getElem? hq)
  obtain ⟨hq0, hq1, hq2⟩ := ha q (List.mem_of_getElem? hq)
  have hmem : ∀ v, v ∈ ndsI n rs ↔ Rch arcs R F a q.2 v := fun v => by
    rw [nds_mem]
    constructor
    · rintro ⟨i, h1, h2, rfl⟩
      exact (r3 i h1).mp h2
    · intro r
      have := r.rng ha hqr.2.2
      refine ⟨v.toNat, by omega, (r3 v.toNat (by omega)).mpr ?_, by omega⟩
      rw [show ((v.toNat : Nat) : Int) = v by omega]
      exact r
  have hh : q.2 ∈ ndsI n rs := (hmem _).mpr .base
  have sh : Shut arcs R F a (ndsI n rs) := fun u k d v hu hg => (hmem _).mpr (.step ((hmem _).mp hu) hg)
  have hic := is_cut_ok hn hl ha hR hF hq nds_ris (nds_len hn.2) hh sh
  have hat := atE (f := encA) hq
  obtain ⟨t, ht⟩ : ∃ t : Nat, q.1 = t := ⟨q.1.toNat, by omega⟩
  have hrt : atI (rs.map D.bl) q.1 = some (.bl (rs.getD t false)) := by
    rw [ht]
    exact atB (by rw [r2]; omega)
  have hrr : rs.getD t false = true ↔ Rch arcs R F a q.2 q.1 := by rw [ht]; exact r3 t (by omega)
  have n1 : n ≤ 100000 := by omega
  have n2 : -100000 ≤ n := by omega
  unfold m__law_asked_right callM b__law_asked_right
  have comp : mComp [12] (fun E => ((mVarT 1) E).bind rg1) (gM 12) (fun E => ((mBin ixD (mVarT 5) (mVarT 12)) E).bind truD) (mVar 12) [.fz (nD n arcs), .fz (.int n), .fz (aD arcs), .fz (pD R F), .fz (.int a), .fz (bD rs), .un, .un, .un, .un, .un, .un, .un, .un] = some ((ndsI n rs).map .int) := by
    have hz : (rangeD 0 n.toNat).length ≤ 100000 := by rw [rangeD_len]; omega
    have h := runComp_filt (β := Nat) (mg := gM 12) (mt := fun E => ((mBin ixD (mVarT 5) (mVarT 12)) E).bind truD) (me := mVar 12) (E0 := [.fz (nD n arcs), .fz (.int n), .fz (aD arcs), .fz (pD R F), .fz (.int a), .fz (bD rs), .un, .un, .un, .un, .un, .un, .un, .un])
      (fun i : Nat => D.int (0 + (i : Int))) (fun i : Nat => D.int (0 + (i : Int))) (fun i => rs.getD i false) (List.range n.toNat) (fun i hi => by
        have hi' := List.mem_range.mp hi
        have := atB (bs := rs) (k := i) (by omega)
        refine ⟨_, rfl, by simp [this], fun _ => by simp⟩)
    rw [← rangeD_eq] at h
    simp only [Int.zero_add] at h
    have e : (fun E : En => ((mVarT 1) E).bind rg1) [.fz (nD n arcs), .fz (.int n), .fz (aD arcs), .fz (pD R F), .fz (.int a), .fz (bD rs), .un, .un, .un, .un, .un, .un, .un, .un] = some (rangeD 0 n.toNat) := by simp [n1, n2]
    unfold mComp
    rw [e]
    show (if _ then _ else _) = _
    rw [if_pos hz]
    unfold ndsI
    rw [List.map_map]
    exact h
  show run (mSeq _ _ _) = _
  refine mat_nx [.fz (nD n arcs), .fz (.int n), .fz (aD arcs), .fz (pD R F), .fz (.int a), .fz (bD rs), .un, .un, .un, .un, .un, .un, .un, .un] (by simp [r1]) ?_
  refine mat_nx [.fz (nD n arcs), .fz (.int n), .fz (aD arcs), .fz (pD R F), .fz (.int a), .fz (bD rs), .fz (.lst ((ndsI n rs).map .int)), .un, .un, .un, .un, .un, .un, .un] (by
    unfold mSet mList
    rw [comp]
    rfl) ?_
  refine mat_nx [.fz (nD n arcs), .fz (.int n), .fz (aD arcs), .fz (pD R F), .fz (.int a), .fz (bD rs), .fz (.lst ((ndsI n rs).map .int)), .fz (.str "cut"), .un, .un, .un, .un, .un, .un] (by simp) ?_
  rcases roc_ok hn hl ha hR hF hq with ⟨rc, ps, vs, p1, p2, p3, p4⟩ | ⟨rc, ns, p1, p2, p4⟩
  · have hb : rs.getD t false = true := hrr.mpr rc
    rw [hb] at hrt
    have hto := told_ring hn hl ha hR hF hq p1 p2 p3
    have hri := is_ring_ok hn hl ha hR hF hq p1 p2 p3
    have hic' : decide (q.1 ∉ ndsI n rs) = false := decide_eq_false fun z => z ((hmem _).mpr rc)
    rw [hic'] at hic
    refine mat_nx [.fz (nD n arcs), .fz (.int n), .fz (aD arcs), .fz (pD R F), .fz (.int a), .fz (bD rs), .fz (.lst ((ndsI n rs).map .int)), .fz (.str "ring"), .un, .un, .un, .un, .un, .un] (by simp [aD, hat, encA, hrt]) ?_
    refine mat_nx [.fz (nD n arcs), .fz (.int n), .fz (aD arcs), .fz (pD R F), .fz (.int a), .fz (bD rs), .fz (.lst ((ndsI n rs).map .int)), .fz (.str "ring"), .fz (bD R), .un, .un, .un, .un, .un] (by simp [pD]) ?_
    refine mat_nx (eA n arcs R F a rs "ring" .un .un .un) (by simp [pD, eA]) ?_
    exact asked2 rs "ring" (.inl rfl) _ (nols_P _) p4 hto (fun _ => hri) (fun z => absurd z ne_rc) (by rw [hic, decide_eq_false ne_rc])
  · have hb : rs.getD t false = false := by
      cases e : rs.getD t false with
      | false => rfl
      | true => exact absurd (hrr.mp e) rc
    rw [hb] at hrt
    have ris := sort_ris p1 fun v hv => ((p2 v).mp hv).rng ha ⟨hq2.1, hq2.2⟩
    have sm : ∀ v, v ∈ sortI ns ↔ Rch arcs R F a q.2 v := fun v => ((sortI_perm ns).mem_iff).trans (p2 v)
    have cl : (sortI ns).length ≤ 1000 := by
      have := nodup_le p1 fun v hv => ((p2 v).mp hv).rng ha ⟨hq2.1, hq2.2⟩
      rw [(sortI_perm ns).length_eq]
      omega
    have ht1 : q.1 ∉ sortI ns := fun z => rc ((sm _).mp z)
    have hh1 : q.2 ∈ sortI ns := (sm _).mpr .base
    have sh1 : Shut arcs R F a (sortI ns) := fun u k d v hu hg => (sm _).mpr (.step ((sm _).mp hu) hg)
    have hto := told_cut hn hl ha hR hF hq ris cl ht1 hh1 sh1
    have hcu := is_cut_ok hn hl ha hR hF hq ris cl hh1 sh1
    rw [decide_eq_true ht1] at hcu
    have hic' : decide (q.1 ∉ ndsI n rs) = true := decide_eq_true fun z => rc ((hmem _).mp z)
    rw [hic'] at hic
    refine mat_nx [.fz (nD n arcs), .fz (.int n), .fz (aD arcs), .fz (pD R F), .fz (.int a), .fz (bD rs), .fz (.lst ((ndsI n rs).map .int)), .fz (.str "cut"), .un, .un, .un, .un, .un, .un] (by simp [aD, hat, encA, hrt]) ?_
    refine mat_nx [.fz (nD n arcs), .fz (.int n), .fz (aD arcs), .fz (pD R F), .fz (.int a), .fz (bD rs), .fz (.lst ((ndsI n rs).map .int)), .fz (.str "cut"), .fz (bD R), .un, .un, .un, .un, .un] (by simp [pD]) ?_
    refine mat_nx (eA n arcs R F a rs "cut" .un .un .un) (by simp [pD, eA]) ?_
    exact asked2 rs "cut" (.inr rfl) _ (nols_I _) p4 hto (fun z => absurd z ne_cr) (fun _ => hcu) (by rw [hic, decide_eq_true rfl])
end
end Sx

set_option Elab.async false
set_option linter.all false
set_option maxRecDepth 100000
set_option maxHeartbeats 8000000
namespace Sx
open PySem L2
theorem bls_sh (R : List Bool) : SeqAt.shaped (D.lst (R.map D.bl)).py = true := shaped_of (d := .lst (R.map .bl)) (by rw [okD]; exact okDs_map fun x _ => rfl) (by
  rw [depD]
  have := depDs_map (f := D.bl) (n := 0) (xs := R) fun x _ => by simp [depD]
  omega)
theorem bls_eqv (R : List Bool) : PyData.eqv (D.lst (R.map D.bl)).py (D.lst (R.map D.bl)).py = true := py_eqv _ (by rw [okD]; exact okDs_map fun x _ => rfl)
theorem insert_perm {α : Type} (xs : List α) (i : Nat) (x : α) : (xs.take i ++ [x] ++ xs.drop i).Perm (x :: xs) := by
  rw [List.append_assoc]
  have := List.perm_middle (a := x) (l₁ := xs.take i) (l₂ := xs.drop i)
  rw [List.take_append_drop] at this
  exact this
theorem emod_ne {t r n : Int} (h1 : 0 ≤ r) (h2 : r < n - 1) : (t + 1 + r) % n ≠ t := fun z => by
  have h := Int.mul_ediv_add_emod (t + 1 + r) n
  rw [z] at h
  generalize (t + 1 + r) / n = k at h
  by_cases hk : k ≤ 0
  · have := Int.mul_le_mul_of_nonneg_left hk (show (0 : Int) ≤ n by omega)
    rw [Int.mul_zero] at this
    omega
  · have := Int.mul_le_mul_of_nonneg_left (show (1 : Int) ≤ k by omega) (show (0 : Int) ≤ n by omega)
    rw [Int.mul_one] at this
    omega
def eO (ns : List Int) (at_ count : Int) (zs : List Int) (o : List Int) (x : Sl) : En :=
  [.fz (.scr ns), .fz (.int at_), .fz (.int count), .fz (.lst (zs.map .int)), .ow (o.map .int), x]
theorem order_ok (ns : List Int) {at_ count : Int} (h : 0 ≤ at_) (hc : 0 ≤ count ∧ count ≤ 1000) : ∃ o : List Int, m__law_order [.scr ns, .int at_, .int count] = some (.lst (o.map .int)) ∧ (o.length : Int) = count ∧ o.Nodup ∧ ∀ v ∈ o, 0 ≤ v ∧ v < count := by
  obtain ⟨zs, z1, z2, z3⟩ := digits_ok ns (at_ := at_) (count := count) h ⟨hc.1, by omega⟩
  unfold m__law_order callM b__law_order
  generalize hmb : (mIns 4 _ _) = mb
  obtain ⟨E', g1, o, x, rfl, o1, o2, o3⟩ := runFor_inv (mg := gM 5) (mb := mb) (fun j E => ∃ (o : List Int) (x : Sl), E = eO ns at_ count zs o x ∧ o.length = j ∧ o.Nodup ∧ ∀ v ∈ o, 0 ≤ v ∧ v < (j : Int)) (rangeD 0 count.toNat) 0 (eO ns at_ count zs [] .un) ⟨[], _, rfl, rfl, by simp, fun v h => (nomatch h)⟩ (fun j d E hd hI => by
    simp only [Nat.zero_add] at hI ⊢
    obtain ⟨o, x, rfl, o1, o2, o3⟩ := hI
    obtain ⟨rfl, hj⟩ := range_at hd
    rw [Int.zero_add]
    obtain ⟨z, hz⟩ : ∃ z, zs[j]? = some z := ⟨_, List.getElem?_eq_getElem (by omega)⟩
    have hat := atE (f := D.int) hz
    have zp := z3 z (List.mem_of_getElem? hz)
    have m1 : 0 ≤ z % ((j : Int) + 1) := Int.emod_nonneg _ (by omega)
    have m2 : z % ((j : Int) + 1) < (j : Int) + 1 := Int.emod_lt_of_pos _ (by omega)
    have pos : (0 : Int) < (j : Int) + 1 := by omega
    have m3 : z % ((j : Int) + 1) < 100000 := by omega
    have ol : o.length < 100000 := by omega
    have pm := insert_perm o (z % ((j : Int) + 1)).toNat (j : Int)
    refine ⟨_, eO ns at_ count zs (o.take (z % ((j : Int) + 1)).toNat ++ [(j : Int)] ++ o.drop (z % ((j : Int) + 1)).toNat) (.fz (.int j)), rfl, .inl ?_, _, .fz (.int j), rfl, ?_, ?_, fun v hv => ?_⟩
    · subst hmb
      simp [eO, hat, pos, m1, m3, ol, List.map_take, List.map_drop]
    · rw [pm.length_eq, List.length_cons, o1]
    · refine pm.nodup_iff.mpr (List.nodup_cons.mpr ⟨fun z => ?_, o2⟩)
      have := o3 _ z
      omega
    · rcases List.mem_cons.mp (pm.mem_iff.mp hv) with e | e
      · omega
      · have := o3 v e
        omega)
  rw [Nat.zero_add, rangeD_len] at o1 o3
  have n1 : count ≤ 100000 := by omega
  have n2 : -100000 ≤ count := by omega
  refine ⟨o, ?_, by omega, o2, fun v hv => by have := o3 v hv; omega⟩
  show run (mSeq _ _ _) = _
  refine mat_nx [.fz (.scr ns), .fz (.int at_), .fz (.int count), .fz (.lst (zs.map .int)), .un, .un] (by simp [z1]) ?_
  refine mat_nx (eO ns at_ count zs [] .un) (by simp [eO]) ?_
  refine mat_for (rangeD 0 count.toNat) _ (by simp [eO, n1, n2]) g1 ?_
  simp [run, eO]
theorem paint_ok (ns : List Int) {at_ : Int} (h : 0 ≤ at_) {m : Nat} (hm : m ≤ 1000) : ∃ bs : List Bool, mF__law_paint [.scr ns, .int at_, .int m] = some (bs.map .bl) ∧ bs.length = m := by
  obtain ⟨zs, z1, z2, z3⟩ := digits_ok ns (at_ := at_) (count := m) h (by omega)
  obtain ⟨r, r1, r2, r3⟩ := draw_ok ns (at_ := 7) (k := 0) (size := 4) (by omega) (by omega) (by omega)
  obtain ⟨bs, b1, b2⟩ := runComp_enc (α := Int) (β := Bool) (mg := gM 4) (mt := mYes) (me := (mBin (intOp fun i j => .bl (decide (i < j))) (mBin (intOpC (fun _ j => decide (0 < j)) fun i j => .int (i % j)) (mUn intD (mBin (intOpC divOk fun i j => .int (i / j)) (mVarT 4) (mC (.int 3)))) (mC (.int 4))) (mVarT 3))) (E0 := [.fz (.scr ns), .fz (.int at_), .fz (.int m), .fz (.int r), .un]) D.int D.bl (fun _ _ => True) zs (fun z _ => ⟨_, decide (z / 3 % 4 < r), rfl, rfl, by simp [divOk_c], trivial⟩)
  have bl := Paired.len b2
  refine ⟨bs, ?_, by omega⟩
  unfold mF__law_paint callF b__law_paint
  have hz : zs.length ≤ 100000 := by omega
  simp [r1, z1, hz, b1]
end Sx

set_option Elab.async false
set_option linter.all false
set_option maxRecDepth 100000
set_option maxHeartbeats 8000000
namespace Sx
open PySem L2
abbrev Ent3 := Int × (Int × Int) × Int
def encE (e : Ent3) : D := .tup [.int e.1, encA e.2.1, .int e.2.2]
theorem extra_ok {n shape : Int} (hn : 2 ≤ n) {zs : List Int} (hz : zs.length = 3) (hp : ∀ z ∈ zs, 0 ≤ z) {es : List Ent3} (he : 0 < es.length) (ha : ∀ e ∈ es, AOk n e.2.1) :
    ∃ p, m__law_extra [.lst (zs.map .int), .lst (es.map encE), .int n, .int shape] = some (encA p) ∧ AOk n p := by
  obtain ⟨z0, z1, z2, rfl⟩ : ∃ z0 z1 z2, zs = [z0, z1, z2] := by
    match zs, hz with
    | [z0, z1, z2], _ => exact ⟨z0, z1, z2, rfl⟩
  have p0 := hp z0 (by simp)
  have p1 := hp z1 (by simp)
  have p2 := hp z2 (by simp)
  have el : (0 : Int) < es.length := by omega
  have i1 : 0 ≤ z1 % (es.length : Int) := Int.emod_nonneg _ (by omega)
  have i2 : z1 % (es.length : Int) < es.length := Int.emod_lt_of_pos _ (by omega)
  obtain ⟨e, h1, h2⟩ := atI_mapD (f := encE) (xs := es) i1 i2
  have hae := ha e (List.mem_of_getElem? h2)
  obtain ⟨t, ht⟩ : ∃ t, t = z1 % n := ⟨_, rfl⟩
  obtain ⟨r, hr⟩ : ∃ r, r = z2 % (n - 1) := ⟨_, rfl⟩
  obtain ⟨r1, hr1⟩ : ∃ r, r = z1 % (n - 1) := ⟨_, rfl⟩
  have t1 : 0 ≤ t := by rw [ht]; exact Int.emod_nonneg _ (by omega)
  have t2 : t < n := by rw [ht]; exact Int.emod_lt_of_pos _ (by omega)
  have q1 : 0 ≤ r := by rw [hr]; exact Int.emod_nonneg _ (by omega)
  have q2 : r < n - 1 := by rw [hr]; exact Int.emod_lt_of_pos _ (by omega)
  have q3 : 0 ≤ r1 := by rw [hr1]; exact Int.emod_nonneg _ (by omega)
  have q4 : r1 < n - 1 := by rw [hr1]; exact Int.emod_lt_of_pos _ (by omega)
  obtain ⟨hd, hhd⟩ : ∃ hd, hd = (t + 1 + r) % n := ⟨_, rfl⟩
  have d1 : 0 ≤ hd := by rw [hhd]; exact Int.emod_nonneg _ (by omega)
  have d2 : hd < n := by rw [hhd]; exact Int.emod_lt_of_pos _ (by omega)
  have d3 : hd ≠ t := by rw [hhd]; exact emod_ne q1 q2
  have n0 : (0 : Int) < n := by omega
  have n1 : (0 : Int) < n - 1 := by omega
  have n1' : (1 : Int) < n := by omega
  unfold m__law_extra callM b__law_extra
  have main : ∀ (k : Int) (T H : Int), (T ≠ H ∧ (0 ≤ T ∧ T < n) ∧ (0 ≤ H ∧ H < n)) → ∃ p, run ((mSeq (mIfS (mAnd (fun E => ((mBin eqD (mVarT 7) (mC (.int 0))) E).bind blOf) (fun E => ((mBin neD (mVarT 3) (mC (.int 1))) E).bind blOf)) (mRet (mVarT 4)) mNext)
      (mSeq (mIfS (mAnd (fun E => ((mBin eqD (mVarT 7) (mC (.int 1))) E).bind blOf) (fun E => ((mBin neD (mVarT 3) (mC (.int 1))) E).bind blOf)) (mRet (mTup (mCons (mBin ixD (mVarT 4) (mC (.int 1))) (mCons (mBin ixD (mVarT 4) (mC (.int 0))) mNil)))) mNext)
      (mSeq (mIfS (fun E => ((mBin eqD (mVarT 7) (mC (.int 3))) E).bind blOf) (mRet (mTup (mCons (mVar 6) (mCons (mVar 5) mNil)))) mNext)
      (mRet (mTup (mCons (mVar 5) (mCons (mVar 6) mNil))))))) [.fz (.lst ([z0, z1, z2].map .int)), .fz (.lst (es.map encE)), .fz (.int n), .fz (.int shape), .fz (encA e.2.1), .fz (.int T), .fz (.int H), .fz (.int k)]) = some (encA p) ∧ AOk n p := by
    intro k T H hTH
    obtain ⟨a1, a2, a3⟩ := hae
    by_cases c1 : k = 0 ∧ shape ≠ 1
    · exact ⟨e.2.1, by simp [run, c1.1, c1.2], a1, a2, a3⟩
    · by_cases c2 : k = 1 ∧ shape ≠ 1
      · exact ⟨(e.2.1.2, e.2.1.1), by simp [run, c2.1, c2.2, encA], fun z => a1 z.symm, a3, a2⟩
      · by_cases c3 : k = 3
        · exact ⟨(H, T), by simp [run, c3, encA], fun z => hTH.1 z.symm, hTH.2.2, hTH.2.1⟩
        · refine ⟨(T, H), ?_, hTH.1, hTH.2.1, hTH.2.2⟩
          by_cases k0 : k = 0
          · have s1 : shape = 1 := by
              by_cases h : shape = 1
              · exact h
              · exact absurd ⟨k0, h⟩ c1
            simp [run, k0, s1, encA]
          · by_cases k1 : k = 1
            · have s1 : shape = 1 := by
                by_cases h : shape = 1
                · exact h
                · exact absurd ⟨k1, h⟩ c2
              simp [run, k1, s1, encA]
            · simp [run, k0, k1, c3, encA]
  obtain ⟨kd, hkd⟩ : ∃ kd, kd = z0 % 4 := ⟨_, rfl⟩
  have c0 : ∃ p, run (mSeq (mIfS (fun E => ((mBin eqD (mVarT 3) (mC (.int 1))) E).bind blOf) (mSeq (mSet 5 (mC (.int 0)))
      (mSet 6 (mBin addD (mC (.int 1)) (mBin (intOpC (fun _ j => decide (0 < j)) fun i j => .int (i % j)) (mUn intD (mBin ixD (mVarT 0) (mC (.int 1)))) (mBin (intOp fun i j => .int (i - j)) (mVarT 2) (mC (.int 1))))))) mNext)
      (mSeq (mIfS (fun E => ((mBin eqD (mVarT 3) (mC (.int 2))) E).bind blOf) (mSet 7 (mBin (intOpC (fun _ j => decide (0 < j)) fun i j => .int (i % j)) (mUn intD (mVarT 7)) (mC (.int 2)))) mNext)
      (mSeq (mIfS (mAnd (fun E => ((mBin eqD (mVarT 7) (mC (.int 0))) E).bind blOf) (fun E => ((mBin neD (mVarT 3) (mC (.int 1))) E).bind blOf)) (mRet (mVarT 4)) mNext)
      (mSeq (mIfS (mAnd (fun E => ((mBin eqD (mVarT 7) (mC (.int 1))) E).bind blOf) (fun E => ((mBin neD (mVarT 3) (mC (.int 1))) E).bind blOf)) (mRet (mTup (mCons (mBin ixD (mVarT 4) (mC (.int 1))) (mCons (mBin ixD (mVarT 4) (mC (.int 0))) mNil)))) mNext)
      (mSeq (mIfS (fun E => ((mBin eqD (mVarT 7) (mC (.int 3))) E).bind blOf) (mRet (mTup (mCons (mVar 6) (mCons (mVar 5) mNil)))) mNext)
      (mRet (mTup (mCons (mVar 5) (mCons (mVar 6) mNil))))))))
      [.fz (.lst ([z0, z1, z2].map .int)), .fz (.lst (es.map encE)), .fz (.int n), .fz (.int shape), .fz (encA e.2.1), .fz (.int t), .fz (.int hd), .fz (.int kd)]) = some (encA p) ∧ AOk n p := by
    by_cases s1 : shape = 1
    · obtain ⟨p, g1, g2⟩ := main kd 0 (1 + r1) ⟨by omega, by omega, by omega⟩
      refine ⟨p, ?_, g2⟩
      refine mat_nx [.fz (.lst ([z0, z1, z2].map .int)), .fz (.lst (es.map encE)), .fz (.int n), .fz (.int shape), .fz (encA e.2.1), .fz (.int 0), .fz (.int (1 + r1)), .fz (.int kd)] (by simp [s1, n1, n1', hr1]) ?_
      refine mat_nx [.fz (.lst ([z0, z1, z2].map .int)), .fz (.lst (es.map encE)), .fz (.int n), .fz (.int shape), .fz (encA e.2.1), .fz (.int 0), .fz (.int (1 + r1)), .fz (.int kd)] (by simp [s1]) ?_
      exact g1
    · by_cases s2 : shape = 2
      · obtain ⟨p, g1, g2⟩ := main (kd % 2) t hd ⟨fun z => d3 z.symm, ⟨t1, t2⟩, d1, d2⟩
        refine ⟨p, ?_, g2⟩
        refine mat_nx [.fz (.lst ([z0, z1, z2].map .int)), .fz (.lst (es.map encE)), .fz (.int n), .fz (.int shape), .fz (encA e.2.1), .fz (.int t), .fz (.int hd), .fz (.int kd)] (by simp [s1]) ?_
        refine mat_nx [.fz (.lst ([z0, z1, z2].map .int)), .fz (.lst (es.map encE)), .fz (.int n), .fz (.int shape), .fz (encA e.2.1), .fz (.int t), .fz (.int hd), .fz (.int (kd % 2))] (by simp [s2]) ?_
        exact g1
      · obtain ⟨p, g1, g2⟩ := main kd t hd ⟨fun z => d3 z.symm, ⟨t1, t2⟩, d1, d2⟩
        refine ⟨p, ?_, g2⟩
        refine mat_nx [.fz (.lst ([z0, z1, z2].map .int)), .fz (.lst (es.map encE)), .fz (.int n), .fz (.int shape), .fz (encA e.2.1), .fz (.int t), .fz (.int hd), .fz (.int kd)] (by simp [s1]) ?_
        refine mat_nx [.fz (.lst ([z0, z1, z2].map .int)), .fz (.lst (es.map encE)), .fz (.int n), .fz (.int shape), .fz (encA e.2.1), .fz (.int t), .fz (.int hd), .fz (.int kd)] (by simp [s2]) ?_
        exact g1
  obtain ⟨p, g1, g2⟩ := c0
  refine ⟨p, ?_, g2⟩
  show run (mSeq _ _ _) = _
  refine mat_nx [.fz (.lst ([z0, z1, z2].map .int)), .fz (.lst (es.map encE)), .fz (.int n), .fz (.int shape), .fz (encA e.2.1), .un, .un, .un] (by simp [el, he, h1, encE]) ?_
  refine mat_nx [.fz (.lst ([z0, z1, z2].map .int)), .fz (.lst (es.map encE)), .fz (.int n), .fz (.int shape), .fz (encA e.2.1), .fz (.int t), .un, .un] (by simp [n0, ht]) ?_
  refine mat_nx [.fz (.lst ([z0, z1, z2].map .int)), .fz (.lst (es.map encE)), .fz (.int n), .fz (.int shape), .fz (encA e.2.1), .fz (.int t), .fz (.int hd), .un] (by simp [n0, n1, n1', hr, hhd]) ?_
  refine mat_nx [.fz (.lst ([z0, z1, z2].map .int)), .fz (.lst (es.map encE)), .fz (.int n), .fz (.int shape), .fz (encA e.2.1), .fz (.int t), .fz (.int hd), .fz (.int kd)] (by simp [hkd]) ?_
  exact g1
end Sx

set_option Elab.async false
set_option linter.all false
set_option maxRecDepth 100000
set_option maxHeartbeats 8000000
namespace Sx
open PySem L2
def encQ (r : Nat × Int) : D := .tup [.int r.1, .int r.2]
section
variable {n : Int} {arcs : List (Int × Int)} {ring : List (Nat × Int)}
def eP (ns : List Int) (n : Int) (arcs : List (Int × Int)) (ring : List (Nat × Int)) (R F : List Bool) (plan off : Int) (ins : List Bool) (x y z w : Sl) : En :=
  [.fz (.scr ns), .fz (.int n), .fz (aD arcs), .fz (.lst (ring.map encQ)), .ow (R.map .bl), .ow (F.map .bl), .fz (.int plan), .fz (.int off), .ow (ins.map .bl), x, y, z, w, .un]
theorem painted_ok (ns : List Int) (hn : 1 ≤ n ∧ n ≤ 400) (hl : arcs.length ≤ 1000) (ha : ∀ p ∈ arcs, AOk n p) (hr : 2 ≤ ring.length ∧ ring.length ≤ 1000) (hk : ∀ r ∈ ring, r.1 < arcs.length) :
    ∃ R F : List Bool, m__law_painted [.scr ns, .int n, aD arcs, .lst (ring.map encQ)] = some (pD R F) ∧ R.length = arcs.length ∧ F.length = arcs.length := by
  obtain ⟨R0, a1, a2⟩ := paint_ok ns (at_ := 5) (by omega) hl
  obtain ⟨F0, b1, b2⟩ := paint_ok ns (at_ := 6) (by omega) hl
  obtain ⟨plan, c1, c2, c3⟩ := draw_ok ns (at_ := 7) (k := 1) (size := 4) (by omega) (by omega) (by omega)
  obtain ⟨of', d1, d2, d3⟩ := draw_ok ns (at_ := 7) (k := 2) (size := (ring.length : Int) - 1) (by omega) (by omega) (by omega)
  obtain ⟨zs, z1, z2, z3⟩ := digits_ok ns (at_ := 8) (count := n) (by omega) (by omega)
  obtain ⟨is0, i1, i2⟩ := runComp_enc (α := Int) (β := Bool) (mg := gM 13) (mt := mYes) (me := (mBin eqD (mBin (intOpC (fun _ j => decide (0 < j)) fun i j => .int (i % j)) (mUn intD (mBin (intOpC divOk fun i j => .int (i / j)) (mVarT 13) (mC (.int 3)))) (mC (.int 2))) (mC (.int 0)))) (E0 := [.fz (.scr ns), .fz (.int n), .fz (aD arcs), .fz (.lst (ring.map encQ)), .ow (R0.map .bl), .ow (F0.map .bl), .fz (.int plan), .fz (.int (1 + of')), .un, .un, .un, .un, .un, .un]) D.int D.bl (fun _ _ => True) zs (fun z _ => ⟨_, decide (z / 3 % 2 = 0), rfl, rfl, by simp [divOk_c], trivial⟩)
  have il := Paired.len i2
  obtain ⟨r0, hr0⟩ : ∃ r, ring[0]? = some r := ⟨_, List.getElem?_eq_getElem (by omega)⟩
  have hr0k := hk r0 (List.mem_of_getElem? hr0)
  obtain ⟨p0, hp0⟩ : ∃ p, arcs[r0.1]? = some p := ⟨_, List.getElem?_eq_getElem hr0k⟩
  obtain ⟨u0, u1, u2⟩ := ha p0 (List.mem_of_getElem? hp0)
  have at0 := atE (f := encQ) hr0
  have ap0 := atE (f := encA) hp0
  have e0 : ((0 : Nat) : Int) = 0 := rfl
  rw [e0] at at0
  obtain ⟨t, ht⟩ : ∃ t : Nat, p0.1 = t := ⟨p0.1.toNat, by omega⟩
  obtain ⟨h, hh⟩ : ∃ h : Nat, p0.2 = h := ⟨p0.2.toNat, by omega⟩
  have ilen : (is0.length : Int) = n := by omega
  have ix1 : ixN is0.length (t : Int) = some t := ixN_nat (by omega)
  have ix2 : ixN is0.length (h : Int) = some h := ixN_nat (by omega)
  unfold m__law_painted callM b__law_painted
  generalize hm1 : (mSeq (mSet 11 _) (mSeq (mSet 12 _) _)) = mb1
  generalize hm2 : (mIfS _ (mSeq (mSub 4 _ (mVar 10)) (mSub 5 _ (mVar 10))) mNext) = mb2
  obtain ⟨ins, hins⟩ : ∃ ins : List Bool, ins = (is0.set t false).set h true := ⟨_, rfl⟩
  have insl : ins.length = is0.length := by rw [hins, List.length_set, List.length_set]
  obtain ⟨E1, g1, R1, F1, x, z, w, rfl, l1, l2⟩ := runFor_inv (mg := gM 9) (mb := mb1) (fun _ E => ∃ R F x z w, E = eP ns n arcs ring R F plan (1 + of') ins x .un z w ∧ R.length = arcs.length ∧ F.length = arcs.length) (rangeD 1 (ring.length - 1)) 0 (eP ns n arcs ring R0 F0 plan (1 + of') ins .un .un .un .un) ⟨_, _, _, _, _, rfl, a2, b2⟩ (fun j d E hd hI => by
    obtain ⟨R, F, x, z, w, rfl, l1, l2⟩ := hI
    obtain ⟨rfl, hj⟩ := range_at hd
    obtain ⟨r, hrj⟩ : ∃ r, ring[j + 1]? = some r := ⟨_, List.getElem?_eq_getElem (by omega)⟩
    have hrk := hk r (List.mem_of_getElem? hrj)
    have hat := atE (f := encQ) hrj
    have e1 : (((j + 1 : Nat)) : Int) = 1 + (j : Int) := by omega
    rw [e1] at hat
    have x1 : ixN R.length (r.1 : Int) = some r.1 := ixN_nat (by omega)
    have x2 : ixN F.length (r.1 : Int) = some r.1 := ixN_nat (by omega)
    obtain ⟨fr, hfr⟩ : ∃ fr : Bool, fr = (decide (plan < 2) || (decide (plan = 2) && decide (1 + (j : Int) ≠ 1 + of'))) := ⟨_, rfl⟩
    have hfree : (mOrV (mBin (intOp fun i j => .bl (decide (i < j))) (mVarT 6) (mC (.int 2))) (mAndV (mBin eqD (mVarT 6) (mC (.int 2))) (mBin neD (mVarT 9) (mVarT 7)))) (eP ns n arcs ring R F plan (1 + of') ins (.fz (.int (1 + j))) .un (.fz (.int r.1)) w) = some (.bl fr) := by
      rw [hfr]
      by_cases q1 : plan < 2
      · simp [eP, q1]
      · by_cases q2 : plan = 2
        · by_cases q3 : (1 : Int) + j = 1 + of'
          · simp [eP, q1, q2, q3]
          · simp [eP, q1, q2, q3]
        · simp [eP, q1, q2]
    have s1 : mSet 11 (mBin ixD (mBin ixD (mVarT 3) (mVarT 9)) (mC (.int 0))) (eP ns n arcs ring R F plan (1 + of') ins (.fz (.int (1 + j))) .un z w) = some (.nx (eP ns n arcs ring R F plan (1 + of') ins (.fz (.int (1 + j))) .un (.fz (.int r.1)) w)) := by
      simp [eP, hat, encQ]
    have s2 : mSet 12 (mOrV (mBin (intOp fun i j => .bl (decide (i < j))) (mVarT 6) (mC (.int 2))) (mAndV (mBin eqD (mVarT 6) (mC (.int 2))) (mBin neD (mVarT 9) (mVarT 7)))) (eP ns n arcs ring R F plan (1 + of') ins (.fz (.int (1 + j))) .un (.fz (.int r.1)) w) = some (.nx (eP ns n arcs ring R F plan (1 + of') ins (.fz (.int (1 + j))) .un (.fz (.int r.1)) (.fz (.bl fr)))) := by
      unfold mSet
      rw [hfree]
      rfl
    refine ⟨_, eP ns n arcs ring (if plan < 3 ∧ r.2 = 1 then R.set r.1 fr else R) (if plan < 3 ∧ r.2 = -1 then F.set r.1 fr else F) plan (1 + of') ins (.fz (.int (1 + j))) .un (.fz (.int r.1)) (.fz (.bl fr)), rfl, .inl ?_, _, _, _, _, _, rfl, ?_, ?_⟩
    · subst hm1
      show mSeq _ _ (eP ns n arcs ring R F plan (1 + of') ins (.fz (.int (1 + j))) .un z w) = _
      rw [seq_nx _ s1, seq_nx _ s2]
      by_cases q1 : plan < 3
      · by_cases q2 : r.2 = 1
        · have q3 : ¬ r.2 = -1 := by omega
          have q4 : ¬ ((1 : Int) = -1) := by decide
          simp [eP, q1, q2, hat, encQ, x1]
        · by_cases q3 : r.2 = -1
          · simp [eP, q1, q3, hat, encQ, x2]
          · simp [eP, q1, q2, q3, hat, encQ]
      · simp [eP, q1]
    · split
      · rw [List.length_set]; exact l1
      · exact l1
    · split
      · rw [List.length_set]; exact l2
      · exact l2)
  obtain ⟨E2, g2, R2, F2, y, rfl, l3, l4⟩ := runFor_inv (mg := gM 10) (mb := mb2) (fun _ E => ∃ R F y, E = eP ns n arcs ring R F plan (1 + of') ins x y z w ∧ R.length = arcs.length ∧ F.length = arcs.length) (rangeD 0 arcs.length) 0 (eP ns n arcs ring R1 F1 plan (1 + of') ins x .un z w) ⟨_, _, _, rfl, l1, l2⟩ (fun j d E hd hI => by
    obtain ⟨R, F, y, rfl, l1, l2⟩ := hI
    obtain ⟨rfl, hj⟩ := range_at hd
    rw [Int.zero_add]
    obtain ⟨p, hp⟩ : ∃ p, arcs[j]? = some p := ⟨_, List.getElem?_eq_getElem hj⟩
    obtain ⟨v0, v1, v2⟩ := ha p (List.mem_of_getElem? hp)
    obtain ⟨s, hs⟩ : ∃ s : Nat, p.1 = s := ⟨p.1.toNat, by omega⟩
    obtain ⟨k, hk'⟩ : ∃ k : Nat, p.2 = k := ⟨p.2.toNat, by omega⟩
    have ap := atE (f := encA) hp
    have i1 : atI (ins.map D.bl) p.1 = some (.bl (ins.getD s false)) := by rw [hs]; exact atB (by omega)
    have i2 : atI (ins.map D.bl) p.2 = some (.bl (ins.getD k false)) := by rw [hk']; exact atB (by omega)
    have r1 := atB (bs := R) (k := j) (by omega)
    have f1 := atB (bs := F) (k := j) (by omega)
    have x1 : ixN R.length (j : Int) = some j := ixN_nat (by omega)
    have x2 : ixN F.length (j : Int) = some j := ixN_nat (by omega)
    by_cases q : plan = 3 ∧ j ≠ r0.1 ∧ ins.getD s false ≠ ins.getD k false
    · refine ⟨_, eP ns n arcs ring (R.set j (R.getD j false && ins.getD k false)) (F.set j (F.getD j false && ins.getD s false)) plan (1 + of') ins x (.fz (.int j)) z w, rfl, .inl ?_, _, _, _, rfl, by rw [List.length_set]; exact l1, by rw [List.length_set]; exact l2⟩
      obtain ⟨q1, q2, q3⟩ := q
      have q2' : ¬ ((j : Int) = (r0.1 : Int)) := by omega
      subst hm2
      generalize ins.getD s false = bs at *
      generalize ins.getD k false = bk at *
      cases e1 : R.getD j false <;> cases e2 : F.getD j false <;> rw [e1] at r1 <;> rw [e2] at f1 <;> simp [eP, aD, q1, q2, q2', q3, at0, encQ, ap, encA, i1, i2, r1, f1, x1, x2]
    · refine ⟨_, eP ns n arcs ring R F plan (1 + of') ins x (.fz (.int j)) z w, rfl, .inl ?_, _, _, _, rfl, l1, l2⟩
      subst hm2
      by_cases q1 : plan = 3
      · by_cases q2 : j = r0.1
        · have q2' : (j : Int) = (r0.1 : Int) := by omega
          simp [eP, q1, at0, encQ, q2, q2']
        · have q2' : ¬ ((j : Int) = (r0.1 : Int)) := by omega
          have q3 : ins.getD s false = ins.getD k false := by
            cases e : decide (ins.getD s false = ins.getD k false) with
            | true => exact of_decide_eq_true e
            | false => exact absurd ⟨q1, q2, of_decide_eq_false e⟩ q
          rw [q3] at i1
          simp [eP, aD, q1, q2, q2', at0, encQ, ap, encA, i1, i2]
      · simp [eP, q1])
  refine ⟨R2, F2, ?_, l3, l4⟩
  have al : arcs.length ≤ 100000 := by omega
  have zl : zs.length ≤ 100000 := by omega
  show run (mSeq _ _ _) = _
  refine mat_nx [.fz (.scr ns), .fz (.int n), .fz (aD arcs), .fz (.lst (ring.map encQ)), .ow (R0.map .bl), .un, .un, .un, .un, .un, .un, .un, .un, .un] (by simp [aD, a1]) ?_
  refine mat_nx [.fz (.scr ns), .fz (.int n), .fz (aD arcs), .fz (.lst (ring.map encQ)), .ow (R0.map .bl), .ow (F0.map .bl), .un, .un, .un, .un, .un, .un, .un, .un] (by simp [aD, b1]) ?_
  refine mat_nx [.fz (.scr ns), .fz (.int n), .fz (aD arcs), .fz (.lst (ring.map encQ)), .ow (R0.map .bl), .ow (F0.map .bl), .fz (.int plan), .un, .un, .un, .un, .un, .un, .un] (by simp [c1]) ?_
  refine mat_nx [.fz (.scr ns), .fz (.int n), .fz (aD arcs), .fz (.lst (ring.map encQ)), .ow (R0.map .bl), .ow (F0.map .bl), .fz (.int plan), .fz (.int (1 + of')), .un, .un, .un, .un, .un, .un] (by simp [d1]) ?_
  refine mat_nx (eP ns n arcs ring R0 F0 plan (1 + of') is0 .un .un .un .un) (by simp [eP, z1, zl]; simpa using i1) ?_
  refine mat_nx (eP ns n arcs ring R0 F0 plan (1 + of') (is0.set t false) .un .un .un .un) (by simp [eP, aD, at0, encQ, ap0, encA, ht, ix1, List.map_set]) ?_
  refine mat_nx (eP ns n arcs ring R0 F0 plan (1 + of') ins .un .un .un .un) (by simp [eP, aD, at0, encQ, ap0, encA, hh, ix2, hins, List.map_set]) ?_
  refine mat_for (rangeD 1 (ring.length - 1)) _ (by
    have q1 : (ring.length : Int) ≤ 100000 := by omega
    have q2 : -100000 ≤ (ring.length : Int) := by omega
    have q3 : ((ring.length : Int) - 1).toNat = ring.length - 1 := by omega
    have q4 : ring.length ≤ 100000 := by omega
    simp [eP, q1, q2, q3, q4]) g1 ?_
  refine mat_for (rangeD 0 arcs.length) _ (by simp [eP, aD, al]; omega) g2 ?_
  simp [run, eP, pD]
end
end Sx

set_option Elab.async false
set_option linter.all false
set_option maxRecDepth 100000
set_option maxHeartbeats 8000000
namespace Sx
open PySem L2
theorem cut3 (zs : List Int) {k : Nat} (h : 3 * k + 3 ≤ zs.length) : cutD (zs.map D.int) (some (3 * (k : Int))) (some (3 * (k : Int) + 3)) = ((zs.drop (3 * k)).take 3).map .int ∧ ((zs.drop (3 * k)).take 3).length = 3 := by
  refine ⟨?_, by rw [List.length_take, List.length_drop]; omega⟩
  have h1 : (3 * (k : Int)).toNat = 3 * k := by omega
  have h2 : (3 * (k : Int) + 3 - 3 * (k : Int)).toNat = 3 := by omega
  rw [cutD_map, cutG_ab (by omega), h1, h2]
theorem nolst_A (p : Int × Int) : nolst (encA p) = true := by simp [encA, nolst, nolsts]
def eN (ns : List Int) (large : Bool) (s2 s3 s4 s5 s6 s7 s8 s9 s10 s11 s12 s13 s14 s15 s16 : Sl) : En :=
  [.fz (.scr ns), .fz (.bl large), s2, s3, s4, s5, s6, s7, s8, s9, s10, s11, s12, s13, s14, s15, s16, .un]
theorem net_ok (ns : List Int) (large : Bool) : ∃ (n : Int) (arcs : List (Int × Int)) (ring : List (Nat × Int)), m__law_net [.scr ns, .bl large] = some (.tup [.int n, aD arcs, .lst (ring.map encQ)]) ∧ (2 ≤ n ∧ n ≤ 400) ∧ (∀ p ∈ arcs, AOk n p) ∧ (1 ≤ arcs.length ∧ arcs.length ≤ 1000) ∧ (2 ≤ ring.length ∧ ring.length ≤ 1000) ∧ ∀ r ∈ ring, r.1 < arcs.length := by
  obtain ⟨r1, a1, b1, c1⟩ := draw_ok ns (at_ := 0) (k := 1) (size := 8) (by omega) (by omega) (by omega)
  obtain ⟨r2, a2, b2, c2⟩ := draw_ok ns (at_ := 0) (k := 2) (size := 7) (by omega) (by omega) (by omega)
  obtain ⟨r3, a3, b3, c3⟩ := draw_ok ns (at_ := 0) (k := 3) (size := 3) (by omega) (by omega) (by omega)
  obtain ⟨r4, a4, b4, c4⟩ := draw_ok ns (at_ := 0) (k := 4) (size := 2) (by omega) (by omega) (by omega)
  obtain ⟨r5, a5, b5, c5⟩ := draw_ok ns (at_ := 0) (k := 5) (size := 391) (by omega) (by omega) (by omega)
  obtain ⟨r7, a7, b7, c7⟩ := draw_ok ns (at_ := 0) (k := 7) (size := 5) (by omega) (by omega) (by omega)
  obtain ⟨r8, a8, b8, c8⟩ := draw_ok ns (at_ := 0) (k := 8) (size := 3) (by omega) (by omega) (by omega)
  have m45 : mulOk r4 r5 = true := mulOk_l (by omega)
  have b45 : 0 ≤ r4 * r5 ∧ r4 * r5 ≤ 390 := by
    have : r4 = 0 ∨ r4 = 1 := by omega
    rcases this with h | h <;> subst h <;> omega
  obtain ⟨n, hn⟩ : ∃ n : Int, n = if large = true then 400 - r4 * r5 else 2 + r1 := ⟨_, rfl⟩
  obtain ⟨sh, hsh⟩ : ∃ s : Int, s = if large = true then r3 else 0 := ⟨_, rfl⟩
  have n1 : 2 ≤ n ∧ n ≤ 400 := by
    rw [hn]
    split <;> omega
  have n2 : sh = 2 → 10 ≤ n := by
    rw [hsh, hn]
    cases large
    · intro h; simp at h
    · intro _
      simp
      omega
  obtain ⟨r6, a6, b6, c6⟩ := draw_ok ns (at_ := 0) (k := 6) (size := n - 1) (by omega) (by omega) (by omega)
  obtain ⟨wd, hwd⟩ : ∃ w : Int, w = if sh = 2 then 2 + r7 else if large = true ∧ r8 = 0 then n else 2 + r6 := ⟨_, rfl⟩
  have w1 : 2 ≤ wd ∧ wd ≤ n := by
    rw [hwd]
    by_cases h : sh = 2
    · have := n2 h
      rw [if_pos h]
      omega
    · rw [if_neg h]
      split <;> omega
  obtain ⟨ex, hex⟩ : ∃ x : Int, x = if large = true then 600 - wd else r2 := ⟨_, rfl⟩
  have x1 : 0 ≤ ex ∧ ex ≤ 600 - wd ∨ (0 ≤ ex ∧ ex ≤ 6) := by
    rw [hex]
    split
    · left; omega
    · right; omega
  have x2 : 0 ≤ ex ∧ wd + ex ≤ 606 := by omega
  obtain ⟨o, o1, o2, o3, o4⟩ := order_ok ns (at_ := 1) (count := n) (by omega) (by omega)
  obtain ⟨ts, t1, t2, t3⟩ := digits_ok ns (at_ := 2) (count := wd) (by omega) (by omega)
  obtain ⟨zs, z1, z2, z3⟩ := digits_ok ns (at_ := 3) (count := 3 * ex) (by omega) (by omega)
  have m3 : mulOk 3 ex = true := mulOk_l (by omega)
  obtain ⟨wn, hwn⟩ : ∃ w : Nat, wd = w := ⟨wd.toNat, by omega⟩
  obtain ⟨xn, hxn⟩ : ∃ w : Nat, ex = w := ⟨ex.toNat, by omega⟩
  have oat : ∀ j : Nat, j < wn → ∃ v, o[j]? = some v ∧ atI (o.map D.int) (j : Int) = some (.int v) ∧ (0 ≤ v ∧ v < n) := fun j hj => by
    have hjl : j < o.length := by omega
    exact ⟨o[j], List.getElem?_eq_getElem hjl, atE (List.getElem?_eq_getElem hjl), o4 _ (List.getElem_mem hjl)⟩
  have odi : ∀ (i j : Nat) (u v : Int), i ≠ j → o[i]? = some u → o[j]? = some v → u ≠ v := fun i j u v hij hu hv z => hij (nodup_idx o3 hu (z ▸ hv))
  unfold m__law_net callM b__law_net
  generalize hm1 : (mSeq (mSet 15 _) (mSeq (mSet 16 _) _)) = mb1
  generalize hm2 : (mApp 8 (mTup (mCons (mUn negD (mC (.int 1))) (mCons (mCallT 4 m__law_extra _) _)))) = mb2
  generalize hm3 : (mIns 13 _ _) = mb3
  generalize hm4 : (mIfS _ (mSub 14 _ _) mNext) = mb4
  obtain ⟨v0, q0, q1, q2⟩ := oat 0 (by omega)
  obtain ⟨v1, q3, q4, q5⟩ := oat 1 (by omega)
  have ne01 := odi 0 1 v0 v1 (by omega) q0 q3
  have e00 : ((0 : Nat) : Int) = 0 := rfl
  have e11 : ((1 : Nat) : Int) = 1 := rfl
  rw [e00] at q1
  rw [e11] at q4
  obtain ⟨E1, g1, es1, j9, s15, s16, rfl, k1, k2⟩ := runFor_inv (mg := gM 9) (mb := mb1) (fun j E => ∃ (es : List Ent3) (x y z : Sl), E = (eN ns large (.fz (.int n)) (.fz (.int ex)) (.fz (.int sh)) (.fz (.int wd)) (.fz (.lst (o.map .int))) (.fz (.lst (ts.map .int))) (.ow (es.map encE)) x .un .un .un .un .un y z) ∧ es.length = j + 1 ∧ ∀ e ∈ es, AOk n e.2.1 ∧ e.1 < wd) (rangeD 1 (wn - 1)) 0 (eN ns large (.fz (.int n)) (.fz (.int ex)) (.fz (.int sh)) (.fz (.int wd)) (.fz (.lst (o.map .int))) (.fz (.lst (ts.map .int))) (.ow (([(0, (v0, v1), 1)] : List Ent3).map encE)) .un .un .un .un .un .un .un .un) ⟨_, _, _, _, rfl, rfl, fun e he => by
      have := List.mem_singleton.mp he
      subst this
      exact ⟨⟨ne01, q2, q5⟩, by show (0 : Int) < wd; omega⟩⟩ (fun j d E hd hI => by
    simp only [Nat.zero_add] at hI ⊢
    obtain ⟨es, x, y, z, rfl, l1, l2⟩ := hI
    obtain ⟨rfl, hj⟩ := range_at hd
    obtain ⟨u, u1, u2, u3⟩ := oat (j + 1) (by omega)
    obtain ⟨m, hm, hmn⟩ : ∃ m : Nat, m = (j + 2) % wn ∧ m < wn := ⟨_, rfl, Nat.mod_lt _ (by omega)⟩
    obtain ⟨v, w1', w2, w3⟩ := oat m hmn
    have jm : j + 1 ≠ m := by
      rw [hm]
      by_cases h : j + 2 < wn
      · rw [Nat.mod_eq_of_lt h]; omega
      · have : j + 2 = wn := by omega
        rw [this, Nat.mod_self]; omega
    have nuv := odi (j + 1) m u v jm u1 w1'
    have em : ((1 : Int) + j + 1) % wd = (m : Int) := by
      rw [hm, hwn]
      rw [show (1 : Int) + j + 1 = ((j + 2 : Nat) : Int) by omega]
      exact (Int.natCast_emod _ _).symm
    obtain ⟨tt, ht⟩ : ∃ tt, ts[j + 1]? = some tt := ⟨_, List.getElem?_eq_getElem (by omega)⟩
    have hta := atE (f := D.int) ht
    have ej : ((j + 1 : Nat) : Int) = 1 + (j : Int) := by omega
    rw [ej] at hta u2
    have wpos : (0 : Int) < wd := by omega
    have el : es.length < 100000 := by omega
    have s1 : mSet 15 (mBin ixD (mVarT 6) (mVarT 9)) (eN ns large (.fz (.int n)) (.fz (.int ex)) (.fz (.int sh)) (.fz (.int wd)) (.fz (.lst (o.map .int))) (.fz (.lst (ts.map .int))) (.ow (es.map encE)) (.fz (.int (1 + j))) .un .un .un .un .un y z) = some (.nx (eN ns large (.fz (.int n)) (.fz (.int ex)) (.fz (.int sh)) (.fz (.int wd)) (.fz (.lst (o.map .int))) (.fz (.lst (ts.map .int))) (.ow (es.map encE)) (.fz (.int (1 + j))) .un .un .un .un .un (.fz (.int u)) z)) := by
      simp [eN, u2]
    have s2 : mSet 16 (mBin ixD (mVarT 6) (mBin (intOpC (fun _ j => decide (0 < j)) fun i j => .int (i % j)) (mUn intD (mBin addD (mVarT 9) (mC (.int 1)))) (mVarT 5))) (eN ns large (.fz (.int n)) (.fz (.int ex)) (.fz (.int sh)) (.fz (.int wd)) (.fz (.lst (o.map .int))) (.fz (.lst (ts.map .int))) (.ow (es.map encE)) (.fz (.int (1 + j))) .un .un .un .un .un (.fz (.int u)) z) = some (.nx (eN ns large (.fz (.int n)) (.fz (.int ex)) (.fz (.int sh)) (.fz (.int wd)) (.fz (.lst (o.map .int))) (.fz (.lst (ts.map .int))) (.ow (es.map encE)) (.fz (.int (1 + j))) .un .un .un .un .un (.fz (.int u)) (.fz (.int v)))) := by
      simp [eN, wpos, em, w2]
    refine ⟨_, eN ns large (.fz (.int n)) (.fz (.int ex)) (.fz (.int sh)) (.fz (.int wd)) (.fz (.lst (o.map .int))) (.fz (.lst (ts.map .int))) (.ow ((es ++ ([if tt % 2 = 0 then ((1 + j : Int), (u, v), 1) else ((1 + j : Int), (v, u), -1)] : List Ent3)).map encE)) (.fz (.int (1 + j))) .un .un .un .un .un (.fz (.int u)) (.fz (.int v)), rfl, .inl ?_, _, _, _, _, rfl, by rw [List.length_append, l1]; rfl, fun e he => ?_⟩
    · subst hm1
      show mSeq _ _ (eN ns large (.fz (.int n)) (.fz (.int ex)) (.fz (.int sh)) (.fz (.int wd)) (.fz (.lst (o.map .int))) (.fz (.lst (ts.map .int))) (.ow (es.map encE)) (.fz (.int (1 + j))) .un .un .un .un .un y z) = _
      rw [seq_nx _ s1, seq_nx _ s2]
      by_cases tz : tt % 2 = 0
      · simp [eN, hta, tz, el, encE, encA]
      · simp [eN, hta, tz, el, encE, encA]
    · rcases List.mem_append.mp he with h | h
      · exact l2 e h
      · have h := List.mem_singleton.mp h
        subst h
        by_cases tz : tt % 2 = 0
        · rw [if_pos tz]
          exact ⟨⟨nuv, u3, w3⟩, by show (1 : Int) + j < wd; omega⟩
        · rw [if_neg tz]
          exact ⟨⟨fun z => nuv z.symm, w3, u3⟩, by show (1 : Int) + j < wd; omega⟩)
  rw [Nat.zero_add, rangeD_len] at k1
  obtain ⟨E2, g2, es2, j11, rfl, k3, k4⟩ := runFor_inv (mg := gM 11) (mb := mb2) (fun j E => ∃ (es : List Ent3) (x : Sl), E = (eN ns large (.fz (.int n)) (.fz (.int ex)) (.fz (.int sh)) (.fz (.int wd)) (.fz (.lst (o.map .int))) (.fz (.lst (ts.map .int))) (.ow (es.map encE)) j9 (.fz (.lst (zs.map .int))) x .un .un .un s15 s16) ∧ es.length = wn + j ∧ ∀ e ∈ es, AOk n e.2.1 ∧ e.1 < wd) (rangeD 0 xn) 0 (eN ns large (.fz (.int n)) (.fz (.int ex)) (.fz (.int sh)) (.fz (.int wd)) (.fz (.lst (o.map .int))) (.fz (.lst (ts.map .int))) (.ow (es1.map encE)) j9 (.fz (.lst (zs.map .int))) .un .un .un .un s15 s16) ⟨_, _, rfl, by omega, k2⟩ (fun j d E hd hI => by
    simp only [Nat.zero_add] at hI ⊢
    obtain ⟨es, x, rfl, l1, l2⟩ := hI
    obtain ⟨rfl, hj⟩ := range_at hd
    rw [Int.zero_add]
    obtain ⟨c1, c2⟩ := cut3 zs (k := j) (by omega)
    obtain ⟨p, p1, p2⟩ := extra_ok (n := n) (shape := sh) (by omega) c2 (fun z hz => z3 z (List.mem_of_mem_drop (List.mem_of_mem_take hz))) (es := es) (by omega) fun e he => (l2 e he).1
    have mk : mulOk 3 (j : Int) = true := mulOk_l (by omega)
    have el : es.length < 100000 := by omega
    refine ⟨_, eN ns large (.fz (.int n)) (.fz (.int ex)) (.fz (.int sh)) (.fz (.int wd)) (.fz (.lst (o.map .int))) (.fz (.lst (ts.map .int))) (.ow ((es ++ ([((-1 : Int), p, (1 : Int))] : List Ent3)).map encE)) j9 (.fz (.lst (zs.map .int))) (.fz (.int j)) .un .un .un s15 s16, rfl, .inl ?_, _, _, rfl, by rw [List.length_append, l1]; rfl, fun e he => ?_⟩
    · subst hm2
      rw [List.map_take, List.map_drop] at c1 p1
      simp [eN, mk, c1, p1, nolst_A, el, encE]
    · rcases List.mem_append.mp he with h | h
      · exact l2 e h
      · have h := List.mem_singleton.mp h
        subst h
        exact ⟨p2, by show (-1 : Int) < wd; omega⟩)
  rw [Nat.zero_add, rangeD_len] at k3
  obtain ⟨sp, y1, y2, y3⟩ := digits_ok ns (at_ := 4) (count := es2.length) (by omega) (by omega)
  obtain ⟨E3, g3, sf, i11, rfl, k5, k6⟩ := runFor_inv (mg := gM 11) (mb := mb3) (fun j E => ∃ (sf : List Ent3) (x : Sl), E = (eN ns large (.fz (.int n)) (.fz (.int ex)) (.fz (.int sh)) (.fz (.int wd)) (.fz (.lst (o.map .int))) (.fz (.lst (ts.map .int))) (.ow (es2.map encE)) j9 (.fz (.lst (zs.map .int))) x (.fz (.lst (sp.map .int))) (.ow (sf.map encE)) .un s15 s16) ∧ sf.length = j ∧ ∀ e ∈ sf, e ∈ es2) (rangeD 0 es2.length) 0 (eN ns large (.fz (.int n)) (.fz (.int ex)) (.fz (.int sh)) (.fz (.int wd)) (.fz (.lst (o.map .int))) (.fz (.lst (ts.map .int))) (.ow (es2.map encE)) j9 (.fz (.lst (zs.map .int))) j11 (.fz (.lst (sp.map .int))) (.ow []) .un s15 s16) ⟨[], _, rfl, rfl, fun e h => (nomatch h)⟩ (fun j d E hd hI => by
    simp only [Nat.zero_add] at hI ⊢
    obtain ⟨sf, x, rfl, l1, l2⟩ := hI
    obtain ⟨rfl, hj⟩ := range_at hd
    rw [Int.zero_add]
    obtain ⟨z, hz⟩ : ∃ z, sp[j]? = some z := ⟨_, List.getElem?_eq_getElem (by omega)⟩
    have hat := atE (f := D.int) hz
    have zp := y3 z (List.mem_of_getElem? hz)
    obtain ⟨e, he⟩ : ∃ e, es2[j]? = some e := ⟨_, List.getElem?_eq_getElem hj⟩
    have hea := atE (f := encE) he
    have m1 : 0 ≤ z % ((j : Int) + 1) := Int.emod_nonneg _ (by omega)
    have m2 : z % ((j : Int) + 1) < (j : Int) + 1 := Int.emod_lt_of_pos _ (by omega)
    have pos : (0 : Int) < (j : Int) + 1 := by omega
    have m3 : z % ((j : Int) + 1) < 100000 := by omega
    have ol : sf.length < 100000 := by omega
    have pm := insert_perm sf (z % ((j : Int) + 1)).toNat e
    refine ⟨_, eN ns large (.fz (.int n)) (.fz (.int ex)) (.fz (.int sh)) (.fz (.int wd)) (.fz (.lst (o.map .int))) (.fz (.lst (ts.map .int))) (.ow (es2.map encE)) j9 (.fz (.lst (zs.map .int))) (.fz (.int j)) (.fz (.lst (sp.map .int))) (.ow ((sf.take (z % ((j : Int) + 1)).toNat ++ [e] ++ sf.drop (z % ((j : Int) + 1)).toNat).map encE)) .un s15 s16, rfl, .inl ?_, _, _, rfl, ?_, fun v hv => ?_⟩
    · subst hm3
      simp [eN, hat, hea, pos, m1, m3, ol, List.map_take, List.map_drop]
    · rw [pm.length_eq, List.length_cons, l1]
    · rcases List.mem_cons.mp (pm.mem_iff.mp hv) with h | h
      · rw [h]; exact List.mem_of_getElem? he
      · exact l2 v h)
  rw [Nat.zero_add, rangeD_len] at k5
  have sfok : ∀ e ∈ sf, AOk n e.2.1 ∧ e.1 < wd := fun e he => k4 e (k6 e he)
  obtain ⟨E4, g4, ring, h11, rfl, k7, k8⟩ := runFor_inv (mg := gM 11) (mb := mb4) (fun j E => ∃ (ring : List (Nat × Int)) (x : Sl), E = (eN ns large (.fz (.int n)) (.fz (.int ex)) (.fz (.int sh)) (.fz (.int wd)) (.fz (.lst (o.map .int))) (.fz (.lst (ts.map .int))) (.ow (es2.map encE)) j9 (.fz (.lst (zs.map .int))) x (.fz (.lst (sp.map .int))) (.ow (sf.map encE)) (.ow (ring.map encQ)) s15 s16) ∧ ring.length = wn ∧ ∀ r ∈ ring, r.1 < sf.length) (rangeD 0 sf.length) 0 (eN ns large (.fz (.int n)) (.fz (.int ex)) (.fz (.int sh)) (.fz (.int wd)) (.fz (.lst (o.map .int))) (.fz (.lst (ts.map .int))) (.ow (es2.map encE)) j9 (.fz (.lst (zs.map .int))) i11 (.fz (.lst (sp.map .int))) (.ow (sf.map encE)) (.ow ((List.replicate wn ((0, 1) : Nat × Int)).map encQ)) s15 s16) ⟨_, _, rfl, by simp, fun r hr => by
      rw [List.eq_of_mem_replicate hr]
      show 0 < sf.length
      omega⟩ (fun j d E hd hI => by
    obtain ⟨ring, x, rfl, l1, l2⟩ := hI
    obtain ⟨rfl, hj⟩ := range_at hd
    rw [Int.zero_add]
    obtain ⟨e, he⟩ : ∃ e, sf[j]? = some e := ⟨_, List.getElem?_eq_getElem hj⟩
    have hea := atE (f := encE) he
    have hew := (sfok e (List.mem_of_getElem? he)).2
    by_cases c : 0 ≤ e.1
    · obtain ⟨t, ht⟩ : ∃ t : Nat, e.1 = t := ⟨e.1.toNat, by omega⟩
      have hix : ixN ring.length (t : Int) = some t := ixN_nat (by omega)
      refine ⟨_, eN ns large (.fz (.int n)) (.fz (.int ex)) (.fz (.int sh)) (.fz (.int wd)) (.fz (.lst (o.map .int))) (.fz (.lst (ts.map .int))) (.ow (es2.map encE)) j9 (.fz (.lst (zs.map .int))) (.fz (.int j)) (.fz (.lst (sp.map .int))) (.ow (sf.map encE)) (.ow ((ring.set t (j, e.2.2)).map encQ)) s15 s16, rfl, .inl ?_, _, _, rfl, by rw [List.length_set]; exact l1, fun r hr => ?_⟩
      · subst hm4
        simp [eN, hea, encE, c, ht, hix, encQ, List.map_set]
      · rcases List.mem_or_eq_of_mem_set hr with h | h
        · exact l2 r h
        · rw [h]; exact hj
    · refine ⟨_, eN ns large (.fz (.int n)) (.fz (.int ex)) (.fz (.int sh)) (.fz (.int wd)) (.fz (.lst (o.map .int))) (.fz (.lst (ts.map .int))) (.ow (es2.map encE)) j9 (.fz (.lst (zs.map .int))) (.fz (.int j)) (.fz (.lst (sp.map .int))) (.ow (sf.map encE)) (.ow (ring.map encQ)) s15 s16, rfl, .inl ?_, _, _, rfl, l1, l2⟩
      subst hm4
      simp [eN, hea, encE, c])
  have sfl : sf.length = es2.length := k5
  refine ⟨n, sf.map (·.2.1), ring, ?_, n1, fun p hp => ?_, ⟨by rw [List.length_map]; omega, by rw [List.length_map]; omega⟩, ⟨by omega, by omega⟩, fun r hr => by rw [List.length_map]; exact k8 r hr⟩
  rotate_left
  · obtain ⟨e, he, rfl⟩ := List.mem_map.mp hp
    exact (sfok e he).1
  obtain ⟨as, c1, c2⟩ := runComp_enc (mg := gM 17) (mt := mYes) (me := mBin ixD (mVarT 17) (mC (.int 1))) (E0 := eN ns large (.fz (.int n)) (.fz (.int ex)) (.fz (.int sh)) (.fz (.int wd)) (.fz (.lst (o.map .int))) (.fz (.lst (ts.map .int))) (.ow (es2.map encE)) j9 (.fz (.lst (zs.map .int))) h11 (.fz (.lst (sp.map .int))) (.ow (sf.map encE)) (.fz (.lst (ring.map encQ))) s15 s16) encE encA (fun e p => p = e.2.1) sf (fun e _ => ⟨_, e.2.1, rfl, rfl, by simp [eN, encE], rfl⟩)
  have as_eq : as = sf.map (·.2.1) := Paired.fn (f := fun e : Ent3 => e.2.1) c2
  have nt : (0 : Int) < n - 1 := by omega
  show run (mSeq _ _ _) = _
  refine mat_nx (eN ns large (.fz (.int (2 + r1))) .un .un .un .un .un .un .un .un .un .un .un .un .un .un) (by simp [eN, a1]) ?_
  refine mat_nx (eN ns large (.fz (.int (2 + r1))) (.fz (.int r2)) .un .un .un .un .un .un .un .un .un .un .un .un .un) (by simp [eN, a2]) ?_
  refine mat_nx (eN ns large (.fz (.int (2 + r1))) (.fz (.int r2)) (.fz (.int 0)) .un .un .un .un .un .un .un .un .un .un .un .un) (by simp [eN]) ?_
  refine mat_nx (eN ns large (.fz (.int n)) (.fz (.int r2)) (.fz (.int sh)) .un .un .un .un .un .un .un .un .un .un .un .un) (by cases large <;> simp [eN, a3, a4, a5, m45, hn, hsh]) ?_
  refine mat_nx (eN ns large (.fz (.int n)) (.fz (.int r2)) (.fz (.int sh)) (.fz (.int (2 + r6))) .un .un .un .un .un .un .un .un .un .un .un) (by simp [eN, a6]) ?_
  refine mat_nx (eN ns large (.fz (.int n)) (.fz (.int r2)) (.fz (.int sh)) (.fz (.int wd)) .un .un .un .un .un .un .un .un .un .un .un) (by rw [hwd]; by_cases h : sh = 2 <;> cases large <;> by_cases h8 : r8 = 0 <;> simp [eN, a7, a8, h, h8]) ?_
  refine mat_nx (eN ns large (.fz (.int n)) (.fz (.int ex)) (.fz (.int sh)) (.fz (.int wd)) .un .un .un .un .un .un .un .un .un .un .un) (by rw [hex]; cases large <;> simp [eN]) ?_
  refine mat_nx (eN ns large (.fz (.int n)) (.fz (.int ex)) (.fz (.int sh)) (.fz (.int wd)) (.fz (.lst (o.map .int))) .un .un .un .un .un .un .un .un .un .un) (by simp [eN, o1]) ?_
  refine mat_nx (eN ns large (.fz (.int n)) (.fz (.int ex)) (.fz (.int sh)) (.fz (.int wd)) (.fz (.lst (o.map .int))) (.fz (.lst (ts.map .int))) .un .un .un .un .un .un .un .un .un) (by simp [eN, t1]) ?_
  refine mat_nx (eN ns large (.fz (.int n)) (.fz (.int ex)) (.fz (.int sh)) (.fz (.int wd)) (.fz (.lst (o.map .int))) (.fz (.lst (ts.map .int))) (.ow (([(0, (v0, v1), 1)] : List Ent3).map encE)) .un .un .un .un .un .un .un .un) (by simp [eN, q1, q4, encE, encA]) ?_
  refine mat_for (rangeD 1 (wn - 1)) _ (by
    have h1 : wd ≤ 100000 := by omega
    have h2 : -100000 ≤ wd := by omega
    have h3 : (wd - 1).toNat = wn - 1 := by omega
    simp [eN, h1, h2, h3]) g1 ?_
  refine mat_nx (eN ns large (.fz (.int n)) (.fz (.int ex)) (.fz (.int sh)) (.fz (.int wd)) (.fz (.lst (o.map .int))) (.fz (.lst (ts.map .int))) (.ow (es1.map encE)) j9 (.fz (.lst (zs.map .int))) .un .un .un .un s15 s16) (by simp [eN, m3, z1]) ?_
  refine mat_for (rangeD 0 xn) _ (by
    have h1 : ex ≤ 100000 := by omega
    have h2 : -100000 ≤ ex := by omega
    have h3 : ex.toNat = xn := by omega
    simp [eN, h1, h2, h3]) g2 ?_
  refine mat_nx (eN ns large (.fz (.int n)) (.fz (.int ex)) (.fz (.int sh)) (.fz (.int wd)) (.fz (.lst (o.map .int))) (.fz (.lst (ts.map .int))) (.ow (es2.map encE)) j9 (.fz (.lst (zs.map .int))) j11 (.fz (.lst (sp.map .int))) .un .un s15 s16) (by simp [eN, y1]) ?_
  refine mat_nx (eN ns large (.fz (.int n)) (.fz (.int ex)) (.fz (.int sh)) (.fz (.int wd)) (.fz (.lst (o.map .int))) (.fz (.lst (ts.map .int))) (.ow (es2.map encE)) j9 (.fz (.lst (zs.map .int))) j11 (.fz (.lst (sp.map .int))) (.ow []) .un s15 s16) (by simp [eN]) ?_
  refine mat_for (rangeD 0 es2.length) _ (by
    have h1 : es2.length ≤ 100000 := by omega
    simp [eN, h1]; omega) g3 ?_
  refine mat_nx (eN ns large (.fz (.int n)) (.fz (.int ex)) (.fz (.int sh)) (.fz (.int wd)) (.fz (.lst (o.map .int))) (.fz (.lst (ts.map .int))) (.ow (es2.map encE)) j9 (.fz (.lst (zs.map .int))) i11 (.fz (.lst (sp.map .int))) (.ow (sf.map encE)) (.ow ((List.replicate wn ((0, 1) : Nat × Int)).map encQ)) s15 s16) (by 
    have h1 : wd ≤ 100000 := by omega
    have h2 : -100000 ≤ wd := by omega
    have h3 : wd.toNat = wn := by omega
    have h4 : wn ≤ 100000 := by omega
    simp [eN, h1, h2, h3, h4, rep_one, encQ]) ?_
  refine mat_for (rangeD 0 sf.length) _ (by
    have h1 : sf.length ≤ 100000 := by omega
    simp [eN, h1]; omega) g4 ?_
  have sl : sf.length ≤ 100000 := by omega
  rw [as_eq] at c1
  simp only [eN] at c1
  simp [run, eN, sl, c1, aD]
end Sx

set_option Elab.async false
set_option linter.all false
set_option maxRecDepth 100000
set_option maxHeartbeats 8000000
namespace Sx
open PySem L2
section
variable {n : Int} {arcs : List (Int × Int)} {a : Nat} {q : Int × Int}
def eH (ns : List Int) (n : Int) (arcs : List (Int × Int)) (P : D) (a : Nat) (R F : List Bool) (x8 x9 x10 x11 x12 x13 : Sl) : En :=
  [.fz (.scr ns), .fz (nD n arcs), .fz (.int n), .fz (aD arcs), .fz P, .fz (.int a), .ow (R.map .bl), .ow (F.map .bl), x8, x9, x10, x11, x12, x13]
theorem changed_ok (ns : List Int) {R F : List Bool} (hn : 1 ≤ n ∧ n ≤ 400) (hl : arcs.length ≤ 1000) (ha : ∀ p ∈ arcs, AOk n p) (hR : R.length = arcs.length) (hF : F.length = arcs.length) (hq : arcs[a]? = some q) :
    m__law_changed_right [.scr ns, nD n arcs, .int n, aD arcs, pD R F, .int a] = some (.bl true) := by
  unfold m__law_changed_right callM b__law_changed_right
  have hal : a < arcs.length := (List.getElem?_eq_some_iff.mp hq).1
  obtain ⟨hq0, hq1, hq2⟩ := ha q (List.mem_of_getElem? hq)
  obtain ⟨t, ht⟩ : ∃ t : Nat, q.1 = t := ⟨q.1.toNat, by omega⟩
  have hat := atE (f := encA) hq
  generalize hmb : (mSeq (mSet 9 _) (mSeq (mSet 10 _) _)) = mb
  obtain ⟨E', g1, R', F', x8, x9, x10, x11, x12, x13, rfl, _⟩ := runFor_inv (mg := gM 8) (mb := mb) (fun _ E => ∃ (R' F' : List Bool) (x8 x9 x10 x11 x12 x13 : Sl), E = eH ns n arcs (pD R F) a R' F' x8 x9 x10 x11 x12 x13 ∧ R'.length = arcs.length ∧ F'.length = arcs.length) (rangeD 0 5) 0 (eH ns n arcs (pD R F) a R F .un .un .un .un .un .un) ⟨_, _, _, _, _, _, _, _, rfl, hR, hF⟩ (fun j d E hd hI => by
    obtain ⟨R', F', x8, x9, x10, x11, x12, x13, rfl, hR', hF'⟩ := hI
    obtain ⟨rfl, hj⟩ := range_at hd
    rw [Int.zero_add]
    obtain ⟨rs, r1, r2, r3⟩ := reached_ok hn hl ha hR' hF' hq
    have hrt : atI (rs.map D.bl) q.1 = some (.bl (rs.getD t false)) := by
      rw [ht]
      exact atB (by rw [r2]; omega)
    have hrr : rs.getD t false = true ↔ Rch arcs R' F' a q.2 q.1 := by rw [ht]; exact r3 t (by omega)
    have s1 : mSet 9 (mTup (mCons (mList (fun E => ((mVarT 6) E).bind seqOf)) (mCons (mList (fun E => ((mVarT 7) E).bind seqOf)) mNil))) (eH ns n arcs (pD R F) a R' F' (.fz (.int j)) x9 x10 x11 x12 x13) = some (.nx (eH ns n arcs (pD R F) a R' F' (.fz (.int j)) (.fz (pD R' F')) x10 x11 x12 x13)) := by
      simp [eH, pD]
    have s2 : mSet 10 (mC (.str "cut")) (eH ns n arcs (pD R F) a R' F' (.fz (.int j)) (.fz (pD R' F')) x10 x11 x12 x13) = some (.nx (eH ns n arcs (pD R F) a R' F' (.fz (.int j)) (.fz (pD R' F')) (.fz (.str "cut")) x11 x12 x13)) := by
      simp [eH]
    rcases roc_ok hn hl ha hR' hF' hq with ⟨rc, ps, vs, p1, p2, p3, p4⟩ | ⟨rc, nn, p1, p2, p4⟩
    · have hb : rs.getD t false = true := hrr.mpr rc
      rw [hb] at hrt
      have hto := told_ring hn hl ha hR' hF' hq p1 p2 p3
      have hne : ps.length ≠ 0 := fun z => hq0 (p1.nil_eq (List.length_eq_zero_iff.mp z)).symm
      obtain ⟨r, d1, d2, d3⟩ := draw_ok ns (at_ := 9) (k := j) (size := ps.length) (by omega) (by omega) (by omega)
      obtain ⟨rn, hrn⟩ : ∃ rn : Nat, r = rn := ⟨r.toNat, by omega⟩
      obtain ⟨⟨k, d⟩, hk⟩ : ∃ p, ps[rn]? = some p := ⟨_, List.getElem?_eq_getElem (by omega)⟩
      have hkl := p1.k (k, d) (List.mem_of_getElem? hk)
      have hTat : atI (((a, true) :: ps).map encP) (1 + r) = some (encP (k, d)) := by
        rw [hrn, show (1 : Int) + rn = ((rn + 1 : Nat) : Int) by omega]
        exact atE (f := encP) (by simpa using hk)
      have hTl : (((a, true) :: ps).map encP).length = ps.length + 1 := by simp
      have hTn := nols_P ((a, true) :: ps)
      unfold rgD at hto
      generalize ((a, true) :: ps).map encP = T at *
      have ra := atB (bs := R') (k := k) (by omega)
      have fa := atB (bs := F') (k := k) (by omega)
      have x1 : ixN R'.length (k : Int) = some k := ixN_nat (by omega)
      have x2 : ixN F'.length (k : Int) = some k := ixN_nat (by omega)
      refine ⟨_, eH ns n arcs (pD R F) a (R'.set k (R'.getD k false && decide (dirI d = -1))) (F'.set k (F'.getD k false && decide (dirI d = 1))) (.fz (.int j)) (.fz (pD R' F')) (.fz (.str "ring")) (.fz (.tup [.str "ring", .lst T])) (.fz (encP (k, d))) x13, rfl, .inl ?_, _, _, _, _, _, _, _, _, rfl, by rw [List.length_set]; exact hR', by rw [List.length_set]; exact hF'⟩
      subst hmb
      show mSeq _ _ (eH ns n arcs (pD R F) a R' F' (.fz (.int j)) x9 x10 x11 x12 x13) = _
      rw [seq_nx _ s1, seq_nx _ s2]
      rw [seq_nx (eH ns n arcs (pD R F) a R' F' (.fz (.int j)) (.fz (pD R' F')) (.fz (.str "ring")) x11 x12 x13) (by simp [eH, r1, aD, hat, encA, hrt] <;> simp [aD] at r1 <;> simp [r1, hrt])]
      rw [seq_nx (eH ns n arcs (pD R F) a R' F' (.fz (.int j)) (.fz (pD R' F')) (.fz (.str "ring")) (.fz (.tup [.str "ring", .lst T])) x12 x13) (by simp [eH, p4, hTn])]
      rw [seq_nx (eH ns n arcs (pD R F) a R' F' (.fz (.int j)) (.fz (pD R' F')) (.fz (.str "ring")) (.fz (.tup [.str "ring", .lst T])) x12 x13) (by
        have q1 := bls_sh R'
        have q2 := bls_sh F'
        have q3 := bls_eqv R'
        have q4 := bls_eqv F'
        simp [eH, hto]
        simp [pD, q1, q2, q3, q4])]
      cases d
      · cases e1 : R'.getD k false <;> cases e2 : F'.getD k false <;> rw [e1] at ra <;> rw [e2] at fa <;> simp [eH, hTl, d1, hTat, encP, ra, fa, x1, x2]
      · cases e1 : R'.getD k false <;> cases e2 : F'.getD k false <;> rw [e1] at ra <;> rw [e2] at fa <;> simp [eH, hTl, d1, hTat, encP, ra, fa, x1, x2]
    · have hb : rs.getD t false = false := by
        cases e : rs.getD t false with
        | false => rfl
        | true => exact absurd (hrr.mp e) rc
      rw [hb] at hrt
      have ris := sort_ris p1 fun v hv => ((p2 v).mp hv).rng ha ⟨hq2.1, hq2.2⟩
      have sm : ∀ v, v ∈ sortI nn ↔ Rch arcs R' F' a q.2 v := fun v => ((sortI_perm nn).mem_iff).trans (p2 v)
      have cl : (sortI nn).length ≤ 1000 := by
        have := nodup_le p1 fun v hv => ((p2 v).mp hv).rng ha ⟨hq2.1, hq2.2⟩
        rw [(sortI_perm nn).length_eq]
        omega
      have hto := told_cut hn hl ha hR' hF' hq ris cl (fun z => rc ((sm _).mp z)) ((sm _).mpr .base) (fun u k d v hu hg => (sm _).mpr (.step ((sm _).mp hu) hg))
      have hTn := nols_I (sortI nn)
      unfold ctD at hto
      generalize (sortI nn).map D.int = T at *
      obtain ⟨r, d1, d2, d3⟩ := draw_ok ns (at_ := 10) (k := j) (size := arcs.length) (by omega) (by omega) (by omega)
      obtain ⟨k, hk⟩ : ∃ rn : Nat, r = rn := ⟨r.toNat, by omega⟩
      have x1 : ixN R'.length (k : Int) = some k := ixN_nat (by omega)
      have x2 : ixN F'.length (k : Int) = some k := ixN_nat (by omega)
      rw [hk] at d1
      refine ⟨_, eH ns n arcs (pD R F) a (R'.set k true) (F'.set k true) (.fz (.int j)) (.fz (pD R' F')) (.fz (.str "cut")) (.fz (.tup [.str "cut", .lst T])) x12 (.fz (.int k)), rfl, .inl ?_, _, _, _, _, _, _, _, _, rfl, by rw [List.length_set]; exact hR', by rw [List.length_set]; exact hF'⟩
      subst hmb
      show mSeq _ _ (eH ns n arcs (pD R F) a R' F' (.fz (.int j)) x9 x10 x11 x12 x13) = _
      rw [seq_nx _ s1, seq_nx _ s2]
      rw [seq_nx (eH ns n arcs (pD R F) a R' F' (.fz (.int j)) (.fz (pD R' F')) (.fz (.str "cut")) x11 x12 x13) (by simp [eH, r1, aD, hat, encA, hrt] <;> simp [aD] at r1 <;> simp [r1, hrt])]
      rw [seq_nx (eH ns n arcs (pD R F) a R' F' (.fz (.int j)) (.fz (pD R' F')) (.fz (.str "cut")) (.fz (.tup [.str "cut", .lst T])) x12 x13) (by simp [eH, p4, hTn])]
      rw [seq_nx (eH ns n arcs (pD R F) a R' F' (.fz (.int j)) (.fz (pD R' F')) (.fz (.str "cut")) (.fz (.tup [.str "cut", .lst T])) x12 x13) (by
        have q1 := bls_sh R'
        have q2 := bls_sh F'
        have q3 := bls_eqv R'
        have q4 := bls_eqv F'
        simp [eH, hto]
        simp [pD, q1, q2, q3, q4])]
      simp [eH, aD, ne_cr, d1, x1, x2, List.map_set])
  show run (mSeq _ _ _) = _
  refine mat_nx [.fz (.scr ns), .fz (nD n arcs), .fz (.int n), .fz (aD arcs), .fz (pD R F), .fz (.int a), .ow (R.map .bl), .un, .un, .un, .un, .un, .un, .un] (by simp [pD]) ?_
  refine mat_nx (eH ns n arcs (pD R F) a R F .un .un .un .un .un .un) (by simp [eH, pD]) ?_
  refine mat_for (rangeD 0 5) _ (by simp [eH]) g1 ?_
  simp [run, eH]
end
end Sx

set_option Elab.async false
set_option linter.all false
set_option maxRecDepth 100000
set_option maxHeartbeats 8000000
namespace Sx
open PySem L2
theorem arcs_all {n : Int} : ∀ {arcs : List (Int × Int)}, (∀ p ∈ arcs, AOk n p) → (arcs.map encA).all (arcOk n) = true
  | [], _ => rfl
  | p :: arcs, h => by
    rw [List.map_cons, List.all_cons, arcs_all fun q hq => h q (List.mem_cons_of_mem _ hq), Bool.and_true]
    exact decide_eq_true (h p (List.mem_cons_self ..))
theorem mi_ok {n : Int} {arcs : List (Int × Int)} (hn : 2 ≤ n) (hl : arcs.length ≤ 1000) (ha : ∀ p ∈ arcs, AOk n p) : mi_Net [.int n, aD arcs] = some (nD n arcs) := by
  show (if _ then _ else _) = _
  rw [if_pos ⟨by omega, by rw [List.length_map]; omega, arcs_all ha⟩]
@[simp] theorem nol_net (n : Int) (arcs : List (Int × Int)) : nol (nD n arcs) = true := by
  simp [nD, netD]
  exact nols_map (fun p => by simp [encA]) arcs
theorem law_true : ∀ ns : List Int, ns.length ≤ 63 → m_law [.scr ns] = some (.bl true) := by
  intro ns _
  obtain ⟨r0, a1, a2, a3⟩ := draw_ok ns (at_ := 0) (k := 0) (size := 16) (by omega) (by omega) (by omega)
  obtain ⟨large, hlg⟩ : ∃ b : Bool, b = decide (r0 = 0) := ⟨_, rfl⟩
  obtain ⟨n, arcs, ring, h1, hn, ha, hl, hr, hk⟩ := net_ok ns large
  obtain ⟨R, F, h2, hR, hF⟩ := painted_ok ns (n := n) (arcs := arcs) (ring := ring) (by omega) hl.2 ha hr hk
  obtain ⟨⟨k0, d0⟩, hr0⟩ : ∃ r, ring[0]? = some r := ⟨_, List.getElem?_eq_getElem (by omega)⟩
  have hk0 := hk _ (List.mem_of_getElem? hr0)
  have at0 : atI (ring.map encQ) 0 = some (encQ (k0, d0)) := atE (f := encQ) (k := 0) hr0
  have hnet := mi_ok (n := n) (arcs := arcs) (by omega) hl.2 ha
  have nn : 1 ≤ n ∧ n ≤ 400 := by omega
  have ask : ∀ k : Nat, k < arcs.length → m__law_asked_right [nD n arcs, .int n, aD arcs, pD R F, .int k] = some (.bl true) := fun k hk => asked_ok nn hl.2 ha hR hF (List.getElem?_eq_getElem hk)
  obtain ⟨tu, htu⟩ : ∃ tu : List (Int × Int), tu = arcs.map fun p => (p.2, p.1) := ⟨_, rfl⟩
  have tul : tu.length = arcs.length := by rw [htu, List.length_map]
  have tua : ∀ p ∈ tu, AOk n p := fun p hp => by
    rw [htu] at hp
    obtain ⟨q, hq, rfl⟩ := List.mem_map.mp hp
    obtain ⟨b1, b2, b3⟩ := ha q hq
    exact ⟨fun z => b1 z.symm, b3, b2⟩
  have hnet2 := mi_ok (n := n) (arcs := tu) (by omega) (by omega) tua
  have ask2 : ∀ k : Nat, k < arcs.length → m__law_asked_right [nD n tu, .int n, aD tu, pD R F, .int k] = some (.bl true) := fun k hk => asked_ok nn (by omega) tua (by omega) (by omega) (List.getElem?_eq_getElem (by omega))
  have chg := changed_ok ns (R := R) (F := F) nn hl.2 ha hR hF (List.getElem?_eq_getElem hk0)
  unfold m_law callM b_law
  generalize hmb : (mSeq (mIfS (mNot (fun E => ((mCall 5 m__law_asked_right (mCons (mVar 8) (mCons (mVar 3) (mCons (mVar 4) (mCons (mVar 6) (mCons (mVar 11) mNil)))))) E).bind truD)) (mRet (mC (.bl false))) mNext) _) = mb
  show run (mSeq _ _ _) = _
  refine mat_nx [.fz (.scr ns), .fz (.bl large), .un, .un, .un, .un, .un, .un, .un, .un, .un, .un, .un] (by simp [a1, hlg]) ?_
  refine mat_nx [.fz (.scr ns), .fz (.bl large), .fz (.tup [.int n, aD arcs, .lst (ring.map encQ)]), .un, .un, .un, .un, .un, .un, .un, .un, .un, .un] (by simp [h1]) ?_
  refine mat_nx [.fz (.scr ns), .fz (.bl large), .fz (.tup [.int n, aD arcs, .lst (ring.map encQ)]), .fz (.int n), .un, .un, .un, .un, .un, .un, .un, .un, .un] (by simp) ?_
  refine mat_nx [.fz (.scr ns), .fz (.bl large), .fz (.tup [.int n, aD arcs, .lst (ring.map encQ)]), .fz (.int n), .fz (aD arcs), .un, .un, .un, .un, .un, .un, .un, .un] (by simp) ?_
  refine mat_nx [.fz (.scr ns), .fz (.bl large), .fz (.tup [.int n, aD arcs, .lst (ring.map encQ)]), .fz (.int n), .fz (aD arcs), .fz (.int k0), .un, .un, .un, .un, .un, .un, .un] (by simp [at0, encQ]) ?_
  refine mat_nx [.fz (.scr ns), .fz (.bl large), .fz (.tup [.int n, aD arcs, .lst (ring.map encQ)]), .fz (.int n), .fz (aD arcs), .fz (.int k0), .fz (pD R F), .un, .un, .un, .un, .un, .un] (by simp [h2]) ?_
  refine mat_nx [.fz (.scr ns), .fz (.bl large), .fz (.tup [.int n, aD arcs, .lst (ring.map encQ)]), .fz (.int n), .fz (aD arcs), .fz (.int k0), .fz (pD R F), .ow (arcs.map encA), .un, .un, .un, .un, .un] (by simp [aD]) ?_
  refine mat_nx [.fz (.scr ns), .fz (.bl large), .fz (.tup [.int n, aD arcs, .lst (ring.map encQ)]), .fz (.int n), .fz (aD arcs), .fz (.int k0), .fz (pD R F), .ow (arcs.map encA), .fz (nD n arcs), .un, .un, .un, .un] (by
    unfold aD at hnet
    simp [hnet]) ?_
  refine mat_nx [.fz (.scr ns), .fz (.bl large), .fz (.tup [.int n, aD arcs, .lst (ring.map encQ)]), .fz (.int n), .fz (aD arcs), .fz (.int k0), .fz (pD R F), .ow [], .fz (nD n arcs), .un, .un, .un, .un] (by simp) ?_
  clear hlg
  cases large with
  | true =>
    obtain ⟨r1, b1, b2, b3⟩ := draw_ok ns (at_ := 11) (k := 0) (size := 3) (by omega) (by omega) (by omega)
    obtain ⟨r2, c1, c2, c3⟩ := draw_ok ns (at_ := 11) (k := 1) (size := arcs.length) (by omega) (by omega) (by omega)
    obtain ⟨k2, hk2⟩ : ∃ k : Nat, r2 = k := ⟨r2.toNat, by omega⟩
    have s2 := ask k2 (by omega)
    have s1 := ask k0 hk0
    rw [hk2] at c1
    have fin : (mIfS (fun E => ((mVarT 1) E).bind truD) (mSeq (mIfS (fun E => ((mBin eqD (mCall 4 m__law_draw (mCons (mVar 0) (mCons (mC (.int 11)) (mCons (mC (.int 0)) (mCons (mC (.int 3)) mNil))))) (mC (.int 0))) E).bind blOf) (mSet 5 (mCall 4 m__law_draw (mCons (mVar 0) (mCons (mC (.int 11)) (mCons (mC (.int 1)) (mCons (mUn lenD (mVarT 4)) mNil)))))) mNext)
      (mRet (mCall 5 m__law_asked_right (mCons (mVar 8) (mCons (mVar 3) (mCons (mVar 4) (mCons (mVar 6) (mCons (mVar 5) mNil)))))))) mNext) [.fz (.scr ns), .fz (.bl true), .fz (.tup [.int n, aD arcs, .lst (ring.map encQ)]), .fz (.int n), .fz (aD arcs), .fz (.int k0), .fz (pD R F), .ow [], .fz (nD n arcs), .un, .un, .un, .un] = some (.rt (.bl true)) := by
      unfold aD at s1 s2 ⊢
      by_cases e : r1 = 0
      · simp [b1, e, c1, s2]
      · simp [b1, e, s1]
    rw [seq_rt fin]
    rfl
  | false =>
    refine mat_nx [.fz (.scr ns), .fz (.bl false), .fz (.tup [.int n, aD arcs, .lst (ring.map encQ)]), .fz (.int n), .fz (aD arcs), .fz (.int k0), .fz (pD R F), .ow [], .fz (nD n arcs), .un, .un, .un, .un] (by simp) ?_
    obtain ⟨bs, c1, c2⟩ := runComp_enc (mg := gM 12) (mt := mYes) (me := mTup (mCons (mBin ixD (mVarT 12) (mC (.int 1))) (mCons (mBin ixD (mVarT 12) (mC (.int 0))) mNil))) (E0 := [.fz (.scr ns), .fz (.bl false), .fz (.tup [.int n, aD arcs, .lst (ring.map encQ)]), .fz (.int n), .fz (aD arcs), .fz (.int k0), .fz (pD R F), .ow [], .fz (nD n arcs), .un, .un, .un, .un]) encA encA (fun p p' => p' = (p.2, p.1)) arcs (fun p _ => ⟨_, (p.2, p.1), rfl, rfl, by simp [encA], rfl⟩)
    have bse : bs = tu := by rw [htu]; exact Paired.fn (f := fun p : Int × Int => (p.2, p.1)) c2
    rw [bse] at c1
    have al : arcs.length ≤ 100000 := by omega
    refine mat_nx [.fz (.scr ns), .fz (.bl false), .fz (.tup [.int n, aD arcs, .lst (ring.map encQ)]), .fz (.int n), .fz (aD arcs), .fz (.int k0), .fz (pD R F), .ow [], .fz (nD n arcs), .fz (aD tu), .un, .un, .un] (by
      unfold aD at c1 ⊢
      simp [al]
      exact c1) ?_
    refine mat_nx [.fz (.scr ns), .fz (.bl false), .fz (.tup [.int n, aD arcs, .lst (ring.map encQ)]), .fz (.int n), .fz (aD arcs), .fz (.int k0), .fz (pD R F), .ow [], .fz (nD n arcs), .fz (aD tu), .fz (nD n tu), .un, .un] (by
      unfold aD at hnet2 ⊢
      simp [hnet2]) ?_
    obtain ⟨E', g1, x, rfl⟩ := runFor_inv (mg := gM 11) (mb := mb) (fun _ E => ∃ x, E = [.fz (.scr ns), .fz (.bl false), .fz (.tup [.int n, aD arcs, .lst (ring.map encQ)]), .fz (.int n), .fz (aD arcs), .fz (.int k0), .fz (pD R F), .ow [], .fz (nD n arcs), .fz (aD tu), .fz (nD n tu), x, .un]) (rangeD 0 arcs.length) 0 [.fz (.scr ns), .fz (.bl false), .fz (.tup [.int n, aD arcs, .lst (ring.map encQ)]), .fz (.int n), .fz (aD arcs), .fz (.int k0), .fz (pD R F), .ow [], .fz (nD n arcs), .fz (aD tu), .fz (nD n tu), .un, .un] ⟨_, rfl⟩ (fun j d E hd hI => by
      obtain ⟨x, rfl⟩ := hI
      obtain ⟨rfl, hj⟩ := range_at hd
      rw [Int.zero_add]
      have s1 := ask j hj
      have s2 := ask2 j hj
      refine ⟨_, _, rfl, .inl ?_, .fz (.int j), rfl⟩
      subst hmb
      simp [s1, s2])
    refine mat_for (rangeD 0 arcs.length) _ (by simp [aD]; omega) g1 ?_
    simp [run, chg]
end Sx

namespace Sx
open PySem PySem.Spec PyProof.Rows L2
section
def d_init_Net : He.DefD := ⟨("Net", some "__init__"), "__init__", "Net.__init__", defArgs s_init_Net, defBody s_init_Net, defScope s_init_Net, [], []⟩
def d_ends_of : He.DefD := ⟨("ends_of", none), "ends_of", "ends_of", defArgs s_ends_of, defBody s_ends_of, defScope s_ends_of, [], []⟩
def d_links_of : He.DefD := ⟨("links_of", none), "links_of", "links_of", defArgs s_links_of, defBody s_links_of, defScope s_links_of, [], []⟩
def d_crossing : He.DefD := ⟨("crossing", none), "crossing", "crossing", defArgs s_crossing, defBody s_crossing, defScope s_crossing, [], []⟩
def d__check_painting : He.DefD := ⟨("_check_painting", none), "_check_painting", "_check_painting", defArgs s__check_painting, defBody s__check_painting, defScope s__check_painting, [], []⟩
def d__may_go : He.DefD := ⟨("_may_go", none), "_may_go", "_may_go", defArgs s__may_go, defBody s__may_go, defScope s__may_go, [], []⟩
def d__steps_from : He.DefD := ⟨("_steps_from", none), "_steps_from", "_steps_from", defArgs s__steps_from, defBody s__steps_from, defScope s__steps_from, [], []⟩
def d_ring_or_cut : He.DefD := ⟨("ring_or_cut", none), "ring_or_cut", "ring_or_cut", defArgs s_ring_or_cut, defBody s_ring_or_cut, defScope s_ring_or_cut, [], []⟩
def d_is_ring : He.DefD := ⟨("is_ring", none), "is_ring", "is_ring", defArgs s_is_ring, defBody s_is_ring, defScope s_is_ring, [], []⟩
def d_is_cut : He.DefD := ⟨("is_cut", none), "is_cut", "is_cut", defArgs s_is_cut, defBody s_is_cut, defScope s_is_cut, [], []⟩
def d__law_cell : He.DefD := ⟨("_law_cell", none), "_law_cell", "_law_cell", defArgs s__law_cell, defBody s__law_cell, defScope s__law_cell, [], []⟩
def d__law_draw : He.DefD := ⟨("_law_draw", none), "_law_draw", "_law_draw", defArgs s__law_draw, defBody s__law_draw, defScope s__law_draw, [], []⟩
def d__law_digits : He.DefD := ⟨("_law_digits", none), "_law_digits", "_law_digits", defArgs s__law_digits, defBody s__law_digits, defScope s__law_digits, [], []⟩
def d__law_order : He.DefD := ⟨("_law_order", none), "_law_order", "_law_order", defArgs s__law_order, defBody s__law_order, defScope s__law_order, [], []⟩
def d__law_extra : He.DefD := ⟨("_law_extra", none), "_law_extra", "_law_extra", defArgs s__law_extra, defBody s__law_extra, defScope s__law_extra, [], []⟩
def d__law_net : He.DefD := ⟨("_law_net", none), "_law_net", "_law_net", defArgs s__law_net, defBody s__law_net, defScope s__law_net, [], []⟩
def d__law_paint : He.DefD := ⟨("_law_paint", none), "_law_paint", "_law_paint", defArgs s__law_paint, defBody s__law_paint, defScope s__law_paint, [], []⟩
def d__law_painted : He.DefD := ⟨("_law_painted", none), "_law_painted", "_law_painted", defArgs s__law_painted, defBody s__law_painted, defScope s__law_painted, [], []⟩
def d__law_reached : He.DefD := ⟨("_law_reached", none), "_law_reached", "_law_reached", defArgs s__law_reached, defBody s__law_reached, defScope s__law_reached, [], []⟩
def d__law_ring_due : He.DefD := ⟨("_law_ring_due", none), "_law_ring_due", "_law_ring_due", defArgs s__law_ring_due, defBody s__law_ring_due, defScope s__law_ring_due, [], []⟩
def d__law_cut_due : He.DefD := ⟨("_law_cut_due", none), "_law_cut_due", "_law_cut_due", defArgs s__law_cut_due, defBody s__law_cut_due, defScope s__law_cut_due, [], []⟩
def d__law_is_number : He.DefD := ⟨("_law_is_number", none), "_law_is_number", "_law_is_number", defArgs s__law_is_number, defBody s__law_is_number, defScope s__law_is_number, [], []⟩
def d__law_same : He.DefD := ⟨("_law_same", none), "_law_same", "_law_same", defArgs s__law_same, defBody s__law_same, defScope s__law_same, [], []⟩
def d__law_told_right : He.DefD := ⟨("_law_told_right", none), "_law_told_right", "_law_told_right", defArgs s__law_told_right, defBody s__law_told_right, defScope s__law_told_right, [], []⟩
def d__law_asked_right : He.DefD := ⟨("_law_asked_right", none), "_law_asked_right", "_law_asked_right", defArgs s__law_asked_right, defBody s__law_asked_right, defScope s__law_asked_right, [], []⟩
def d__law_changed_right : He.DefD := ⟨("_law_changed_right", none), "_law_changed_right", "_law_changed_right", defArgs s__law_changed_right, defBody s__law_changed_right, defScope s__law_changed_right, [], []⟩
def d_law : He.DefD := ⟨("law", none), "law", "law", defArgs s_law, defBody s_law, defScope s_law, [], []⟩
def fnL : List He.DefD := [d_init_Net, d_ends_of, d_links_of, d_crossing, d__check_painting, d__may_go, d__steps_from, d_ring_or_cut, d_is_ring, d_is_cut, d__law_cell, d__law_draw, d__law_digits, d__law_order, d__law_extra, d__law_net, d__law_paint, d__law_painted, d__law_reached, d__law_ring_due, d__law_cut_due, d__law_is_number, d__law_same, d__law_told_right, d__law_asked_right, d__law_changed_right, d_law]
def faL : List He.Fa := [.glo "Net", .glo "ends_of", .glo "links_of", .glo "crossing", .glo "_check_painting", .glo "_may_go", .glo "_steps_from", .glo "ring_or_cut", .glo "is_ring", .glo "is_cut", .glo "_law_cell", .glo "_law_draw", .glo "_law_digits", .glo "_law_order", .glo "_law_extra", .glo "_law_net", .glo "_law_paint", .glo "_law_painted", .glo "_law_reached", .glo "_law_ring_due", .glo "_law_cut_due", .glo "_law_is_number", .glo "_law_same", .glo "_law_told_right", .glo "_law_asked_right", .glo "_law_changed_right", .glo "law", .free "tuple", .free "range", .free "enumerate", .free "len", .free "sorted", .free "int", .free "min", .free "isinstance", .free "bool", .free "str", .free "list", .cls "Net", .noat "Net" "nodes", .noat "Net" "arcs", .mkr "Net"]
abbrev RR : PySem.W.OpenRow := PySem.W.OpenLaw.row PySem.Challenge.rw_surelyseen_k26_whole_ring_or_cut
abbrev hkL : PySem.W.Hook := He.hookD 5 faL fnL
def obL (s : PySem.W.SharedT) : He.AlD := He.obsDG 5 faL fnL (HandSHeadRun.getT s)
theorem obL_eq (s : PySem.W.SharedT) : obL s = hkL.obs s.abs := He.obsDG_eq (HandSHeadRun.getT_eq s)
def looseL : List PySem.Str := ["WatchError", "BadNet", "Net", "ends_of", "links_of", "crossing", "ring_or_cut", "is_ring", "is_cut", "_check_painting", "_may_go", "_steps_from", "_law_cell", "_law_draw", "_law_digits", "_law_order", "_law_extra", "_law_net", "_law_paint", "_law_painted", "_law_reached", "_law_ring_due", "_law_cut_due", "_law_is_number", "_law_same", "_law_told_right", "_law_asked_right", "_law_changed_right"]
set_option maxHeartbeats 0 in
theorem runL (w : World) : HandSHeadRun.RunEq RR (PySem.W.view RR.prog [32]) hkL obL 4000 looseL w := by
  intro os
  kernel_rfl
variable {P : Program} {w : World} {K : PySem.W.Frag} {mg : Str → Option Value} {base h : Heap}
theorem stands (X : K.In h) (G : h.Ns mainGlobals mg) (c : He.SaysD faL fnL K) (i : Nat) (x : Str) (st : Stmt) (h1 : fnL[i]? = some ⟨(x, none), x, x, defArgs st, defBody st, defScope st, [], []⟩) (h2 : faL[i]? = some (.glo x)) : Stands K mg x st := by
  obtain ⟨fd, F⟩ := c.def_ i h1
  exact ⟨_, fd, He.glo_ok X G (c.fact i h2), F⟩
theorem standsK (X : K.In h) (G : h.Ns mainGlobals mg) (c : He.SaysD faL fnL K) (i : Nat) (x : Str) (st : Stmt) (kws : List (Str × He.Dv)) (h1 : fnL[i]? = some ⟨(x, none), x, x, defArgs st, defBody st, defScope st, [], kws⟩) (h2 : faL[i]? = some (.glo x)) : StandsK K mg x st (kws.map fun q => (q.1, q.2.v K)) := by
  obtain ⟨fd, F⟩ := c.def_ i h1
  exact ⟨_, fd, He.glo_ok X G (c.fact i h2), F⟩
theorem standsI (X : K.In h) (G : h.Ns mainGlobals mg) (c : He.SaysD faL fnL K) (i j : Nat) (x q : Str) (st : Stmt) (h1 : fnL[i]? = some ⟨(x, some "__init__"), "__init__", q, defArgs st, defBody st, defScope st, [], []⟩) (h2 : faL[i]? = some (.glo x)) (h3 : faL[j]? = some (.mkr x)) : StandsI K mg x q st := by
  obtain ⟨fd, F⟩ := c.def_ i h1
  exact ⟨_, fd, He.glo_ok X G (c.fact i h2), He.mkr_ok (c.fact j h3), F⟩
theorem factsL (X : K.In h) (G : h.Ns mainGlobals mg) (c : He.SaysD faL fnL K) {f : Addr} {fd : FuncData} (F : FunD K "law" "law" (defArgs s_law) (defBody s_law) (defScope s_law) [] [] f fd) : FnOk P w K mg base CX0 6 f fd ["script"] (spD K 1 m_law) := by
  have h_tuple : mg "tuple" = none := He.free_ok X G (c.fact 27 (f := .free "tuple") rfl)
  have h_range : mg "range" = none := He.free_ok X G (c.fact 28 (f := .free "range") rfl)
  have h_enumerate : mg "enumerate" = none := He.free_ok X G (c.fact 29 (f := .free "enumerate") rfl)
  have h_len : mg "len" = none := He.free_ok X G (c.fact 30 (f := .free "len") rfl)
  have h_sorted : mg "sorted" = none := He.free_ok X G (c.fact 31 (f := .free "sorted") rfl)
  have h_int : mg "int" = none := He.free_ok X G (c.fact 32 (f := .free "int") rfl)
  have h_min : mg "min" = none := He.free_ok X G (c.fact 33 (f := .free "min") rfl)
  have h_isinstance : mg "isinstance" = none := He.free_ok X G (c.fact 34 (f := .free "isinstance") rfl)
  have h_bool : mg "bool" = none := He.free_ok X G (c.fact 35 (f := .free "bool") rfl)
  have h_str : mg "str" = none := He.free_ok X G (c.fact 36 (f := .free "str") rfl)
  have h_list : mg "list" = none := He.free_ok X G (c.fact 37 (f := .free "list") rfl)
  have k_Net : Cls K (He.ga K "Net") := He.cls_ok (c.fact 38 (f := .cls "Net") rfl)
  have n_Net_nodes : NoAttr K (He.ga K "Net") "nodes" := He.noat_ok (c.fact 39 (f := .noat "Net" "nodes") rfl)
  have n_Net_arcs : NoAttr K (He.ga K "Net") "arcs" := He.noat_ok (c.fact 40 (f := .noat "Net" "arcs") rfl)
  have i_Net := calI_init_Net (P := P) (w := w) (base := base) (standsI X G c 0 41 "Net" "Net.__init__" s_init_Net rfl rfl rfl) k_Net n_Net_nodes n_Net_arcs h_tuple
  have c_ends_of := cal_ends_of (P := P) (w := w) (base := base) (stands X G c 1 "ends_of" s_ends_of rfl rfl) k_Net n_Net_arcs
  have c_links_of := cal_links_of (P := P) (w := w) (base := base) (stands X G c 2 "links_of" s_links_of rfl rfl) k_Net n_Net_nodes n_Net_arcs h_range h_enumerate
  have c_crossing := cal_crossing (P := P) (w := w) (base := base) (stands X G c 3 "crossing" s_crossing rfl rfl) k_Net n_Net_nodes n_Net_arcs h_enumerate
  have c__check_painting := cal__check_painting (P := P) (w := w) (base := base) (stands X G c 4 "_check_painting" s__check_painting rfl rfl) k_Net n_Net_arcs h_len
  have c__may_go := cal__may_go (P := P) (w := w) (base := base) (stands X G c 5 "_may_go" s__may_go rfl rfl) k_Net n_Net_arcs h_len
  have c__steps_from := cal__steps_from (P := P) (w := w) (base := base) (stands X G c 6 "_steps_from" s__steps_from rfl rfl) c_links_of c__may_go k_Net n_Net_arcs h_len
  have t_ring_or_cut := calTF_ring_or_cut (P := P) (w := w) (base := base) (stands X G c 7 "ring_or_cut" s_ring_or_cut rfl rfl) c__check_painting c__steps_from k_Net n_Net_arcs h_sorted
  have c_is_ring := cal_is_ring (P := P) (w := w) (base := base) (stands X G c 8 "is_ring" s_is_ring rfl rfl) c__check_painting c__may_go c_ends_of k_Net n_Net_arcs
  have c_is_cut := cal_is_cut (P := P) (w := w) (base := base) (stands X G c 9 "is_cut" s_is_cut rfl rfl) c__check_painting c_crossing c__may_go k_Net n_Net_nodes n_Net_arcs h_enumerate
  have c__law_cell := cal__law_cell (P := P) (w := w) (base := base) (stands X G c 10 "_law_cell" s__law_cell rfl rfl) h_len h_int
  have c__law_draw := cal__law_draw (P := P) (w := w) (base := base) (stands X G c 11 "_law_draw" s__law_draw rfl rfl) c__law_cell h_range h_int
  have c__law_digits := cal__law_digits (P := P) (w := w) (base := base) (stands X G c 12 "_law_digits" s__law_digits rfl rfl) c__law_draw h_min h_range h_int
  have c__law_order := cal__law_order (P := P) (w := w) (base := base) (stands X G c 13 "_law_order" s__law_order rfl rfl) c__law_digits h_range h_int
  have c__law_extra := cal__law_extra (P := P) (w := w) (base := base) (stands X G c 14 "_law_extra" s__law_extra rfl rfl) h_int h_len
  have c__law_net := cal__law_net (P := P) (w := w) (base := base) (stands X G c 15 "_law_net" s__law_net rfl rfl) c__law_draw c__law_order c__law_digits c__law_extra h_range h_int h_len
  have c__law_paint := cal__law_paint (P := P) (w := w) (base := base) (stands X G c 16 "_law_paint" s__law_paint rfl rfl) c__law_draw c__law_digits h_int
  have f__law_paint := calF__law_paint (P := P) (w := w) (base := base) (stands X G c 16 "_law_paint" s__law_paint rfl rfl) c__law_draw c__law_digits h_int
  have c__law_painted := cal__law_painted (P := P) (w := w) (base := base) (stands X G c 17 "_law_painted" s__law_painted rfl rfl) c__law_draw c__law_digits f__law_paint h_len h_int h_range
  have c__law_reached := cal__law_reached (P := P) (w := w) (base := base) (stands X G c 18 "_law_reached" s__law_reached rfl rfl) h_range h_len
  have c__law_ring_due := cal__law_ring_due (P := P) (w := w) (base := base) (stands X G c 19 "_law_ring_due" s__law_ring_due rfl rfl) h_len h_sorted h_range
  have c__law_cut_due := cal__law_cut_due (P := P) (w := w) (base := base) (stands X G c 20 "_law_cut_due" s__law_cut_due rfl rfl) h_len h_range
  have c__law_is_number := cal__law_is_number (P := P) (w := w) (base := base) (stands X G c 21 "_law_is_number" s__law_is_number rfl rfl) h_isinstance h_int h_bool
  have c__law_same := cal__law_same (P := P) (w := w) (base := base) (stands X G c 22 "_law_same" s__law_same rfl rfl) h_isinstance h_bool
  have c__law_told_right := cal__law_told_right (P := P) (w := w) (base := base) (stands X G c 23 "_law_told_right" s__law_told_right rfl rfl) c__law_is_number c__law_ring_due c__law_cut_due h_isinstance h_tuple h_len h_str h_list
  have c__law_asked_right := cal__law_asked_right (P := P) (w := w) (base := base) (stands X G c 24 "_law_asked_right" s__law_asked_right rfl rfl) c__law_reached c__law_told_right c__law_same c_is_ring c_is_cut t_ring_or_cut h_range h_list
  have c__law_changed_right := cal__law_changed_right (P := P) (w := w) (base := base) (stands X G c 25 "_law_changed_right" s__law_changed_right rfl rfl) c__law_reached c__law_told_right c__law_draw t_ring_or_cut h_list h_range h_len
  exact fn_law F c__law_draw c__law_net c__law_painted c__law_asked_right c__law_changed_right i_Net h_list h_len h_range
theorem lastL (hm : ∀ ns : List Int, ns.length ≤ 63 → m_law [.scr ns] = some (.bl true)) (X : K.In h) (G : h.Ns mainGlobals mg) (c : He.SaysD faL fnL K) {fa : Addr} (hmg : mg "law" = some (.ref fa)) :
    ∃ (K : PySem.W.Frag) (fd : FuncData) (sp : Sp), K.In h ∧ (∀ (s : Shared) (u : Value), BindsTo s fd ⟨[u], []⟩ [("script", u)]) ∧
        (∀ (H : Hp) (a : Addr) (ns : List Int), ns.length ≤ 63 → Only H → SqL K H a (ns.map V.int) → sp [.ref a] H (fun v _ => v = .bl true) fun _ _ _ => False) ∧
        ∀ base : Heap, K.In base → base.Ns mainGlobals mg → FnOk P w K mg base CX0 6 fa fd ["script"] sp := by
  obtain ⟨f, fd, g, F⟩ := (stands X G c 26 "law" s_law rfl rfl).ex
  rw [g] at hmg
  cases hmg
  have F0 := F
  obtain ⟨oc, od, dV, kV, doc, pm, an, cdv, ct, osl, rfl, lk, hcd, hd, _⟩ := F0.ex
  have hdv : dV = .none := by
    rcases hd with ⟨_, h⟩ | ⟨z, _⟩
    · exact h
    · exact absurd rfl z
  subst hdv
  refine ⟨K, _, spD K 1 m_law, X, fun s u => .of_eq (bd_law kV doc pm an cdv ct [u] rfl), fun H a ns hl _ hS => ⟨noS, [.scr ns], .bl true, fun a z => z.elim, .cons ((Rp.scr hS).mono rem_no _) .nil, rfl, hm ns hl, fun v H' _ r => ?_⟩, fun base _ _ => factsL X G c F⟩
  cases r
  rfl
end
end Sx
open PySem PySem.W PySem.Calls PyProof.Rows
set_option maxHeartbeats 0 in
theorem PySem.Challenge.cw_surelyseen_k26_whole_ring_or_cut_holds : PySem.Challenge.rw_surelyseen_k26_whole_ring_or_cut.Holds := by
  w_on; o_law
  refine HandSHeadRun.head_any (r := OpenLaw.row PySem.Challenge.rw_surelyseen_k26_whole_ring_or_cut) (q := view (OpenLaw.row PySem.Challenge.rw_surelyseen_k26_whole_ring_or_cut).prog [32]) (H := Sx.hkL) (ob := Sx.obL) (M := 4000) (loose := Sx.looseL) (d := HandSHeadRun.topDef (OpenLaw.row PySem.Challenge.rw_surelyseen_k26_whole_ring_or_cut).prog 32) (kwd := []) Sx.obL_eq
    (by kernel_rfl) (fun s => by kernel_rfl) Sx.runL (by kernel_rfl) (by kernel_rfl) (by kernel_rfl) (by rfl) (by first | assumption | decide +kernel) (by decide +kernel) ⟨rfl, rfl, rfl, rfl, rfl, by decide +kernel⟩ ?hw ?hc
  case hw => w_witness2
  case hc =>
    refine L2.walk_ofE (l := PySem.Challenge.rw_surelyseen_k26_whole_ring_or_cut) (n := 63) (k := 6) (x := "script") (CX := L2.CX0) rfl (by decide) (by kernel_rfl) ⟨rfl, by decide, by decide⟩ ?F (fun _ _ _ _ z => z)
    intro w mg fa h Y G hmg0
    obtain ⟨K, KX, c⟩ := Y
    have hmg : mg ("law" : PySem.Str) = some (.ref fa) := by
      have e : (HandSHeadRun.topDef (OpenLaw.row PySem.Challenge.rw_surelyseen_k26_whole_ring_or_cut).prog 32).name = ("law" : PySem.Str) := by kernel_rfl
      rw [← e]
      exact hmg0
    exact Sx.lastL Sx.law_true KX G c hmg
