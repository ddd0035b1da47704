import PyProof.Rows.All
import Wide.All
import OpenK.AllK
import Wide.FinOn
import HandS.ForMost
import HandS.Iter
import HandS.Walk
import KE.GoesMore
import HandS.More
import HandS.SortInts
import HandS.Evl
import HandS.Flow
import HandS.Style
import HandS.TupAny
import HandS.IsInst
import HandS.Defaults
import HandS.Dict
import HandS.Head0
import HandS.Head1
import HandS.Head2
import HandS.HeadEnd
import HandS.HeadHook1
import HandS.HeadHook2
import HandS.Zip
import HandS.Sort
import HandS.MakeKwOnly
import PyProof.SeqRoads2
import HandS.SetFor
import PyProof.EqKinds
import HandS.DictComp
import HandS.ExcCtx
import HandS.ExcIs
import HandS.Codes
import HandS.Text
import HandS.Strs
import PyProof.Rows.SetFrom
import HandS.HeadHook4
import PySem.Challenge.RW_surelyseen_k19_traces_refused
set_option Elab.async false
set_option linter.all false
set_option maxRecDepth 100000
set_option maxHeartbeats 1000000
namespace PySem
open Sem (wp)
open AutoSeq1 (wpAny_loadPart')
theorem meets_enumerate_newTu (l : Addr) (items : Array Value) (n : Nat) (dct : Option Addr) (sl : Array (Option Value)) :
    Meets (Builtin.«enumerate.__new__» ⟨[.type "enumerate", .ref l], []⟩) (fun _ R s => s.heap.get? l = some { cls := .type "tuple", dict := dct, data := .seq items n, slots := sl } ∧
      R (.ok (.ret (.ref (s.heap.push { cls := .type "tuple_iterator", data := .fields #[.ref l, .int 0 0] }).objs.size)))
        { s with heap := (s.heap.push { cls := .type "tuple_iterator", data := .fields #[.ref l, .int 0 0] }).push { cls := .type "enumerate", data := .fields #[.none, .bool false, .ref s.heap.objs.size, rawInt 0, .none, .none] } }) :=
  .of_wp fun prog w A R s h => by
    obtain ⟨hp, g, d, tk, os⟩ := s; obtain ⟨hl, h⟩ := h
    have hsub := sub_enumerate
    have hL : Heap.IsTuple (Shared.heap ⟨hp, g, d, tk, os⟩) l items := ⟨_, hl, rfl, n, rfl⟩
    wp_walk using wpAny_loadPart' hl
    refine wpAny_stack_any fun st => wpAny_pure ?_
    split
    · rename_i c _ _ _ _ _
      cases (c == Value.type "enumerate")
      · wp_walk using wpAny_loadPart' hl, wpAny_pyIter_tuple hL
        exact ⟨_, rfl, h⟩
      · wp_walk using wpAny_loadPart' hl, wpAny_pyIter_tuple hL
        exact ⟨_, rfl, h⟩
    · wp_walk using wpAny_loadPart' hl, wpAny_pyIter_tuple hL
      exact ⟨_, rfl, h⟩
section
variable {prog : Program} {w : World} {A : Around} {E : Value → Shared → Prop} {s : Shared}
theorem call_enumerate_tuple {l : Addr} {items : Array Value} {Q : Value → Shared → Prop} (hL : s.heap.IsTuple l items)
    (h : ∀ h', IsEnum h' (s.heap.objs.size + 1) s.heap.objs.size 0 .none → h'.IsTupleIter s.heap.objs.size l 0 → h'.objs.size = s.heap.objs.size + 2 →
      (∀ b o, s.heap.get? b = some o → h'.get? b = some o) → Q (.ref (s.heap.objs.size + 1)) { s with heap := h' }) :
    wpAny (model prog w) A (call (.type "enumerate") [.ref l]) Q E s := by
  obtain ⟨⟨c, dct, dt, sl⟩, hl, hc, n, hd⟩ := hL
  replace hc : c = .type "tuple" := hc
  replace hd : dt = .seq items n := hd
  subst hc hd
  refine callType_new F.called_enumerate (by decide) (F.typeCall_enumerate_1 _) (F.newCall_enumerate_1 _) (fun obj => F.args_object_init_2 obj _) F.entry_enumerate_new
    (meets_enumerate_newTu l items n dct sl) ⟨hl, ?_⟩
  have hz : (s.heap.push { cls := .type "tuple_iterator", data := .fields #[.ref l, .int 0 0] }).objs.size = s.heap.objs.size + 1 := Heap.size_push ..
  show _ ∧ _
  rw [hz]
  have he : IsEnum ((s.heap.push { cls := .type "tuple_iterator", data := .fields #[.ref l, .int 0 0] }).push
      { cls := .type "enumerate", data := .fields #[.none, .bool false, .ref s.heap.objs.size, rawInt 0, .none, .none] }) (s.heap.objs.size + 1) s.heap.objs.size 0 .none := by
    have := Heap.get?_push_size (s.heap.push { cls := .type "tuple_iterator", data := .fields #[.ref l, .int 0 0] })
      (o := { cls := .type "enumerate", data := .fields #[.none, .bool false, .ref s.heap.objs.size, rawInt 0, .none, .none] }) rfl
    rw [hz] at this; exact this
  refine ⟨⟨_, he, rfl⟩, h _ he ⟨_, Heap.get?_push_of_some _ (Heap.get?_push_size _ rfl), rfl, rfl⟩ (by rw [Heap.size_push, hz]) fun b o x => Heap.get?_push_of_some _ (Heap.get?_push_of_some _ x)⟩
end
end PySem
namespace L2
open PySem PySem.Spec PyProof.Rows
/-- the tuple at a as it stands at each turn, each item in a new pair -/
def IteT (K : PySem.W.Frag) (a : Addr) : It :=
  ⟨fun i H => ∃ (xs : List V) (x : V), SqT K H a xs ∧ xs[i]? = some x, fun i H v H' => ∃ T x, v = .ref T ∧ H T = none ∧ H' = upd H T (.tup [.int (i : Nat), x]) ∧ ∀ xs, SqT K H a xs → xs[i]? = some x, fun i H => ∃ xs : List V, SqT K H a xs ∧ xs.length ≤ i⟩
theorem turn_enumT {P : Program} {w : World} {K : PySem.W.Frag} {elts : List Expr} {kk : Nat} {tpos : Pos} (a e it : Addr) :
    Turn P w K (.Tuple elts kk tpos) (IteT K a) [e, it] e (fun i h => (∃ old, IsEnum h e it ((i : Nat) : Int) old) ∧ h.IsTupleIter it a i ∧ e ≠ it) where
  mem := by simp
  obj := fun i h st b hb => by
    obtain ⟨⟨old, he⟩, ⟨o, ho, hc, hd⟩, _⟩ := st
    have e' : b = e ∨ b = it := by simpa using hb
    rcases e' with z | z
    · rw [z]; exact ⟨_, he, fun v q => nomatch q⟩
    · rw [z]; exact ⟨o, ho, fun v q => by rw [hd] at q; cases q⟩
  keep := fun i h h' st k => let ⟨⟨old, he⟩, hi, hne⟩ := st; ⟨⟨old, k e (by simp) _ he⟩, hi.at fun o q => k it (by simp) o q, hne⟩
  item := by
    intro X hP hw hK hc i pins s σ H E I hf st hg
    subst hP hw hK
    obtain ⟨⟨old, he⟩, hit, hne⟩ := st
    obtain ⟨xs, x, hq, hx⟩ := hg
    obtain ⟨its, rv, p, hz⟩ := I.tuple hq
    obtain ⟨u, hu, ru⟩ := rv.get hx
    have hel : e < s.heap.objs.size := Heap.lt_size he
    have hil : it < s.heap.objs.size := by obtain ⟨_, q, _⟩ := hit; exact Heap.lt_size q
    have pt : s.heap.IsTuple a its.toArray := p
    have hai : a ≠ it := fun z => by
      subst z
      obtain ⟨o1, h1, c1, _⟩ := hit
      obtain ⟨o2, h2, c2, _⟩ := pt
      rw [h1] at h2
      cases h2
      rw [c1] at c2
      exact absurd c2 (by decide)
    have hae : e ≠ a := fun z => by
      subst z
      obtain ⟨o2, h2, c2, _⟩ := pt
      have h1 : s.heap.get? e = some _ := he
      rw [h1] at h2
      cases h2
      exact absurd (show Value.type "enumerate" = Value.type "tuple" from c2) (by decide)
    refine wpAny_pyNext_enum_itemD (Draws.tuple (A := X.A.in1) (show X.A.in1.handled = none from I.ok.hd hc) it a hai its.toArray) he ⟨hit, pt⟩ (by
      have := (List.getElem?_eq_some_iff.mp hu).1
      simpa using this) hne (by simp [hne, hae]) fun u2 h' tk hu2 ho hit' hT hsz hk => ?_
    have eu : u2 = u := by
      have : its.toArray[i]? = some u := by simpa using hu
      rw [this] at hu2
      exact (Option.some.inj hu2).symm
    subst eu
    refine ⟨_, rfl, wpAny_letOwnedTupleGo_enum (s := { s with heap := h', toks := tk + 1 }) ho fun h'' he' sb => ?_⟩
    have hT2 : h''.get? s.heap.objs.size = some { cls := .type "tuple", data := .seq #[.int i tk, u2] } := (sb.2 _ (Nat.ne_of_gt hel)).trans hT
    have new : ObjOk X.prog X.w (upd H s.heap.objs.size (.tup [.int (i : Nat), x])) h'' s.heap.objs.size (.tup [.int (i : Nat), x]) :=
      ⟨by show 2 ≤ sizeLine; decide, [.int i tk, u2], .cons ⟨_, rfl⟩ (.cons ru .nil), ⟨_, hT2, rfl, _, rfl⟩⟩
    have I1 : Inv X pins σ (upd H s.heap.objs.size (.tup [.int (i : Nat), x])) { s with heap := h'', toks := tk + 1 } :=
      I.turnedNew (ch := [e, it]) (fun b ob hb q => (sb.2 b (fun z => hb (by simp [z]))).trans (hk b ob (fun z => hb (by simp [z])) (fun z => hb (by simp [z])) q)) hf (Nat.le_refl _) new
    refine ⟨.ref s.heap.objs.size, _, I1, rfl, ⟨_, x, rfl, I.hok.fresh (Nat.le_refl _), rfl, fun ys hy => by rw [I.tuple_inj hy hq]; exact hx⟩, ⟨⟨u2, ?_⟩, hit'.1.at fun o q => (sb.2 it (Ne.symm hne)).trans q, hne⟩, fun b hb => ?_⟩
    · have e1 : ((i + 1 : Nat) : Int) = (i : Int) + 1 := by omega
      rw [e1]; exact he'
    · have hb' : b < s.heap.objs.size := by
        have e' : b = e ∨ b = it := by simpa using hb
        rcases e' with z | z
        · rw [z]; exact hel
        · rw [z]; exact hil
      rw [upd_ne (Nat.ne_of_lt hb')]
      exact (hf b hb).1
  done := by
    intro X hP hw hK hc i pins s σ H E I hf st hg
    subst hP hw hK
    obtain ⟨⟨old, he⟩, hit, hne⟩ := st
    obtain ⟨xs, hq, hx⟩ := hg
    obtain ⟨its, rv, p, hz⟩ := I.tuple hq
    obtain ⟨f0, f1, f2, f3, f4, f5⟩ := hf it (by simp)
    have hl := rv.length
    have pt : s.heap.IsTuple a its.toArray := p
    have D : Draws X.prog X.w X.A.in1 it [it, a] i (fun _ _ => True) (fun j h => j = i ∧ h.IsTupleIter it a j ∧ h.IsTuple a its.toArray) :=
      { live := fun _ _ st => let ⟨o, ho, _⟩ := st.2.1; ⟨o, ho⟩
        frame := fun _ _ _ st hk => ⟨st.1, st.2.1.at fun o e => hk it (by simp) o e, st.2.2.at fun o e => hk a (by simp) o e⟩
        item := fun j s Q E hi st hQ => absurd st.1 (by omega)
        done := fun s Q E st hE => wpAny_nextOf_tuple_end (show X.A.in1.handled = none from I.ok.hd hc) st.2.1 st.2.2 (by simp; omega) hE }
    exact wpAny_pyNext_enum_endD D he ⟨rfl, hit, pt⟩ fun h' eb => ⟨rfl, I.turned (t' := s.toks) (fun b o hb q => eb b o hb q) f0 f1 f3 f4 f5⟩
  self := fun A i s Q E st h => let ⟨⟨_, he⟩, _⟩ := st; wpAny_pyIter_enum he h
def iEnumT (K : PySem.W.Frag) (ta : TA) : TI := fun σ H R => ta σ H fun vs H1 => ∃ a xs, vs = [.ref a] ∧ SqT K H1 a xs ∧ R (IteT K a) H1
theorem pi_enumT {X : Cx} {e : Expr} {ta : TA} {p pos tpos : Pos} {elts : List Expr} {kk : Nat} (hg : Gl X "enumerate") (hm : X.mg "enumerate" = none) (ha : PA X [e] ta) (hs : starEach [e] X.env = [(false, eval e X.env)] := by rfl) :
    PI X (.Tuple elts kk tpos) (.Call (.Name "enumerate" p) [e] [] pos) (iEnumT X.K ta) := by
  refine ⟨fun pins s σ H R I h => ?_⟩
  refine Call_ (ld_blt I hg hm boot_enumerate (PyProof.Rows.callWith_type1 (thn (ha.run pos pins s σ H _ I h) fun us s1 ⟨vs, H1, I1, r1, q1⟩ => ?_) hs rfl))
  obtain ⟨a, xs, ex, hq, q⟩ := q1
  subst ex
  cases r1 with
  | cons r rr =>
    cases rr
    cases r
    obtain ⟨its, rv, p', hz⟩ := I1.tuple hq
    refine call_enumerate_tuple (show s1.heap.IsTuple a its.toArray from p') fun h' he hit hsz hk => wpAny_pyIter_enum he ?_
    have I2 : Inv X pins σ H1 { s1 with heap := h' } := I1.kept (t' := s1.toks) hk
    refine ⟨s1.heap.objs.size + 1, [s1.heap.objs.size + 1, s1.heap.objs.size], _, _, H1, rfl, I2, turn_enumT a (s1.heap.objs.size + 1) s1.heap.objs.size, ⟨⟨.none, he⟩, hit, Nat.succ_ne_self _⟩, fun b hb => ?_, q⟩
    have e' : b = s1.heap.objs.size + 1 ∨ b = s1.heap.objs.size := by simpa using hb
    have hle : s1.heap.objs.size ≤ b := by
      rcases e' with z | z
      · rw [z]; exact Nat.le_add_right _ _
      · rw [z]; exact Nat.le_refl _
    exact I1.fpOk hle (I1.hok.fresh hle)
theorem walk_enumT {K : PySem.W.Frag} {a : Addr} {xs : List V} : Walk (IteT K a) xs.length (fun H => SqT K H a xs) (YPair (fun i => some (.int (i : Nat))) (fun i => xs[i]?)) := by
  refine ⟨fun i _ hi q => ⟨xs, xs[i], q, by simp [hi]⟩, fun _ q => ⟨xs, q, Nat.le_refl _⟩, fun i H v H' _ q y => ?_⟩
  obtain ⟨T, x, h1, h2, h3, h4⟩ := y
  exact ⟨T, .int (i : Nat), x, h1, h2, h3, rfl, h4 xs q⟩
end L2

set_option Elab.async false
set_option linter.all false
set_option maxRecDepth 100000
set_option maxHeartbeats 1000000
namespace L2
open PySem PySem.Spec PyProof.Rows
section
variable {X : Cx}
theorem call_sortedDIx (hcalm : X.calm = true) : CallR X (.builtin "sorted") (fun xs H Q => ∃ (a : Addr) (kvs : List (Key × V)) (ks : List Int), xs = [.ref a] ∧ Rd H a (.dK kvs) ∧ kvs.map (·.1) = ks.map Sum.inl ∧ ks.length ≤ 100000 ∧
    ∀ (ys : List Int) (p : Addr), ys.Perm ks → ys.Pairwise (· ≤ ·) → H p = none → Q (.ref p) (upd H p (.lst (ys.map V.int)))) := by
  intro pins s σ H xs us Q I r q
  obtain ⟨a, kvs, ks, ex, hd, hks, h64, q⟩ := q
  subst ex
  obtain ⟨u, eu, rx⟩ := vals1 r
  subst eu
  cases rx
  obtain ⟨z, lo, vs, rel, dd⟩ := dk_rd I.hok hd
  obtain ⟨ep, hat⟩ := dd.dictAt
  have hkeys : vs.map (·.1) = ks.map Sum.inl := rel.keys.symm.trans hks
  have hl : vs.length = ks.length := by
    have e := congrArg List.length hkeys
    rw [List.length_map, List.length_map] at e
    exact e
  have hkz : ks.length ≤ sizeLine := by rw [sizeLine_eq]; omega
  have h16 : vs.length ≤ sizeLine := by rw [hl]; exact hkz
  refine Calls.call_function_entry PyProof.Rows.kind_sorted PyProof.Rows.plain_sorted PyProof.Rows.entry_sorted (PyProof.Rows.args_sorted1 _) ?_
  unfold Builtin.«sorted»
  refine wpAny_bind (m := checkCount "sorted" 1 1 _) (wpAny_pure ?_)
  refine wpAny_bind (PySem.W.kdu_collect (A := X.A.in1) (PySem.W.kdl_dict (knd := mixKind X.prog X.w) (kvs := vs) (ep := ep) lo) (I.ok.hd hcalm) hat h16 fun h' tk acc hk hacc => ?_)
  have hal : acc.toList.length = ks.length := by rw [Array.length_toList, hacc.1, hl]
  have hS : IntsAre acc.toList ks := ints_each hal fun j v e => by
    obtain ⟨k, x, e1, e2⟩ := hacc.2 j v (by rw [← Array.getElem?_toList]; exact e)
    have e3 : (vs.map (·.1))[j]? = some k := by rw [List.getElem?_map, e1]; rfl
    rw [hkeys, List.getElem?_map] at e3
    cases e4 : ks[j]? with
    | none => rw [e4] at e3; cases e3
    | some y =>
      rw [e4] at e3
      have e5 : Sum.inl y = k := Option.some.inj e3
      subst e5
      rcases keyIs_shape (show keyIs (Sum.inl y) v = true from e2) with ⟨i, t, ek, ev⟩ | ⟨z, t, ek, ev⟩
      · cases ek
        exact ⟨y, t, rfl, ev⟩
      · cases ek
  have I1 : Inv X pins σ H { s with heap := h', toks := tk } := I.kept hk
  refine wpAny_bind (wpAny_newList ?_ (by rw [hal]; exact hkz))
  have hoL : (h'.push (seqObj "list" acc.toList.toArray 0)).get? h'.objs.size = some (seqObj "list" acc.toList.toArray 0) := Heap.get?_push_size _ rfl
  show wpAny _ _ _ _ _ { s with heap := h'.push (seqObj "list" acc.toList.toArray 0), toks := tk }
  refine wpAny_bind (wpAny_holding (wpAny_call_entry PyProof.Rows.slot_list_sort ⟨_, hoL, rfl⟩ PyProof.Rows.entry_list_sort
    (SrtO.list_sort_ord (s := { s with heap := h'.push (seqObj "list" acc.toList.toArray 0), toks := tk }) SrtO.swo_int hoL (by rw [hal]; exact hkz) (fun h2 => SrtO.ints_sortable hS h2) fun out h1 h2 => ⟨_, rfl, ?_⟩) (PyProof.Rows.args_list_sort _)))
  obtain ⟨g1, g2, g3⟩ := SrtO.ints_out hS h1 h2
  obtain ⟨e', he'⟩ := PyProof.Rows.sortedHeap_at (vs := acc.toList) (out := out.toArray) hoL
  generalize out.map SrtO.iv = ys at *
  have hlen : (ys.map V.int).length ≤ sizeLine := by
    rw [List.length_map, g2.length_eq]
    exact hkz
  refine wpAny_pure ⟨_, rfl, .ref h'.objs.size, upd H h'.objs.size (.lst (ys.map V.int)), I1.laid (t' := tk) (fun b u e => ?_) (Nat.le_refl _)
    (show ObjOk X.prog X.w _ _ _ (.lst (ys.map V.int)) from ⟨hlen, out, e', vals_of_ints g1, he'⟩), rfl, q ys _ g2 g3 (I1.hok.fresh (Nat.le_refl _))⟩
  have hb : b < h'.objs.size := Heap.lt_size e
  rw [PyProof.Rows.sortedHeap_old (Nat.ne_of_lt hb) (by rw [size_push']; exact Nat.lt_succ_of_lt hb)]
  exact Heap.get?_push_of_some _ e
end
end L2

set_option Elab.async false
set_option linter.all false
set_option maxRecDepth 100000
namespace Sx
open PySem PySem.Spec PyProof.Rows L2
open Evl (Ex)

/-- the keys of a dict: ints and texts, or tuples of these -/
inductive KS where
  | k (ks : List Key) | t (ks : List (List Key))
def KS.ho : KS → List V → HO
  | .k ks, xs => .dK (ks.zip xs)
  | .t ks, xs => .dT (ks.zip xs)
def KS.len : KS → Nat
  | .k ks => ks.length
  | .t ks => ks.length
/-- data without addresses -/
inductive D where
  | non | bl (b : Bool) | int (i : Int) | str (x : Str) | lst (xs : List D) | tup (xs : List D) | scr (ns : List Int)
  | dct (ks : KS) (xs : List D) | obj (x : Str) (fs : List Str) (xs : List D)
  | err (a : Addr) (x : Str)

mutual
inductive Rp (K : PySem.W.Frag) (H : Hp) : V → D → Prop
  | non : Rp K H .non .non
  | bl (b : Bool) : Rp K H (.bl b) (.bl b)
  | int (i : Int) : Rp K H (.int i) (.int i)
  | str (x : Str) : Rp K H (.str x) (.str x)
  | lst {a : Addr} {xs : List V} {ds : List D} : H a = some (.lst xs) → RpL K H xs ds → Rp K H (.ref a) (.lst ds)
  | tup {a : Addr} {xs : List V} {ds : List D} : H a = some (.tup xs) → RpL K H xs ds → Rp K H (.ref a) (.tup ds)
  | scr {a : Addr} {ns : List Int} : SqL K H a (ns.map V.int) → Rp K H (.ref a) (.scr ns)
  | dct {a : Addr} {ks : KS} {xs : List V} {ds : List D} : H a = some (ks.ho xs) → ks.len = xs.length → RpL K H xs ds → Rp K H (.ref a) (.dct ks ds)
  | obj {a dx : Addr} {x : Str} {fs : List Str} {xs : List V} {ds : List D} : H a = some (.ins (He.ga K x) dx (fs.zip xs)) → fs.length = xs.length → RpL K H xs ds → Rp K H (.ref a) (.obj x fs ds)
  | err (a : Addr) (x : Str) : Rp K H (.ref a) (.err a x)
inductive RpL (K : PySem.W.Frag) (H : Hp) : List V → List D → Prop
  | nil : RpL K H [] []
  | cons {v : V} {vs : List V} {d : D} {ds : List D} : Rp K H v d → RpL K H vs ds → RpL K H (v :: vs) (d :: ds)
end

section
variable {K : PySem.W.Frag} {H H' : Hp}
mutual
theorem Rp.mono (e : Ex H H') : ∀ (d : D) {v : V}, Rp K H v d → Rp K H' v d
  | .non, _, h => by cases h; exact .non
  | .bl b, _, h => by cases h; exact .bl b
  | .int i, _, h => by cases h; exact .int i
  | .str x, _, h => by cases h; exact .str x
  | .lst ds, _, h => by
    cases h with
    | lst h1 h2 => exact .lst (e _ _ h1) (RpL.mono e ds h2)
  | .tup ds, _, h => by
    cases h with
    | tup h1 h2 => exact .tup (e _ _ h1) (RpL.mono e ds h2)
  | .scr ns, _, h => by
    cases h with
    | scr h1 => exact .scr (Evl.ex_l e h1)
  | .dct ks ds, _, h => by
    cases h with
    | dct h1 h2 h3 => exact .dct (e _ _ h1) h2 (RpL.mono e ds h3)
  | .obj x fs ds, _, h => by
    cases h with
    | obj h1 h2 h3 => exact .obj (e _ _ h1) h2 (RpL.mono e ds h3)
  | .err a x, _, h => by cases h; exact .err a x
theorem RpL.mono (e : Ex H H') : ∀ (ds : List D) {vs : List V}, RpL K H vs ds → RpL K H' vs ds
  | [], _, h => by cases h; exact .nil
  | d :: ds, _, h => by
    cases h with
    | cons h1 h2 => exact .cons (Rp.mono e d h1) (RpL.mono e ds h2)
end
theorem RpL.length : ∀ {vs : List V} {ds : List D}, RpL K H vs ds → vs.length = ds.length
  | _, [], h => by cases h; rfl
  | _, d :: ds, h => by
    cases h with
    | cons h1 h2 => exact congrArg Nat.succ h2.length
theorem RpL.get : ∀ {vs : List V} {ds : List D} {i : Nat} {d : D}, RpL K H vs ds → ds[i]? = some d → ∃ v, vs[i]? = some v ∧ Rp K H v d
  | _, [], i, d, h, e => by simp at e
  | _, d :: ds, 0, d', h, e => by
    cases h with
    | cons h1 h2 =>
      simp at e
      subst e
      exact ⟨_, rfl, h1⟩
  | _, d :: ds, i + 1, d', h, e => by
    cases h with
    | cons h1 h2 =>
      obtain ⟨v, e1, e2⟩ := h2.get (i := i) (d := d') (by simpa using e)
      exact ⟨v, by simpa using e1, e2⟩
theorem RpL.getV {vs : List V} {ds : List D} {i : Nat} {v : V} (h : RpL K H vs ds) (e : vs[i]? = some v) : ∃ d, ds[i]? = some d ∧ Rp K H v d := by
  have hi : i < vs.length := (List.getElem?_eq_some_iff.mp e).1
  rw [h.length] at hi
  obtain ⟨u, e1, e2⟩ := h.get (List.getElem?_eq_getElem hi)
  rw [e] at e1
  cases e1
  exact ⟨_, List.getElem?_eq_getElem hi, e2⟩
theorem RpL.app : ∀ {vs us : List V} {ds es : List D}, RpL K H vs ds → RpL K H us es → RpL K H (vs ++ us) (ds ++ es)
  | _, _, [], _, h, g => by cases h; exact g
  | _, _, d :: ds, _, h, g => by
    cases h with
    | cons h1 h2 => exact .cons h1 (h2.app g)
theorem RpL.one {v : V} {d : D} (h : Rp K H v d) : RpL K H [v] [d] := .cons h .nil
theorem RpL.take : ∀ {vs : List V} {ds : List D} (n : Nat), RpL K H vs ds → RpL K H (vs.take n) (ds.take n)
  | _, _, 0, _ => .nil
  | _, [], _ + 1, h => by cases h; exact .nil
  | _, d :: ds, n + 1, h => by
    cases h with
    | cons h1 h2 => exact .cons h1 (h2.take n)
theorem RpL.drop : ∀ {vs : List V} {ds : List D} (n : Nat), RpL K H vs ds → RpL K H (vs.drop n) (ds.drop n)
  | _, _, 0, h => h
  | _, [], _ + 1, h => by cases h; exact .nil
  | _, d :: ds, n + 1, h => by
    cases h with
    | cons h1 h2 => exact h2.drop n
theorem RpL.set {v : V} {d : D} (g : Rp K H v d) : ∀ {vs : List V} {ds : List D} (n : Nat), RpL K H vs ds → RpL K H (vs.set n v) (ds.set n d)
  | _, [], _, h => by cases h; exact .nil
  | _, e :: ds, 0, h => by
    cases h with
    | cons h1 h2 => exact .cons g h2
  | _, e :: ds, n + 1, h => by
    cases h with
    | cons h1 h2 => exact .cons h1 (h2.set g n)
theorem RpL.rev : ∀ {vs : List V} {ds : List D}, RpL K H vs ds → RpL K H vs.reverse ds.reverse
  | _, [], h => by cases h; exact .nil
  | _, d :: ds, h => by
    cases h with
    | cons h1 h2 =>
      rw [List.reverse_cons, List.reverse_cons]
      exact h2.rev.app (.one h1)
theorem RpL.rep (n : Nat) {vs : List V} {ds : List D} (h : RpL K H vs ds) : RpL K H (List.replicate n vs).flatten (List.replicate n ds).flatten := by
  induction n with
  | zero => exact .nil
  | succ n ih =>
    rw [List.replicate_succ, List.replicate_succ, List.flatten_cons, List.flatten_cons]
    exact h.app ih
theorem RpL.ints : ∀ (ns : List Int), RpL K H (ns.map V.int) (ns.map D.int)
  | [] => .nil
  | n :: ns => .cons (.int n) (RpL.ints ns)
theorem RpL.ints_of : ∀ {ns : List Int} {vs : List V}, RpL K H vs (ns.map D.int) → vs = ns.map V.int
  | [], _, h => by cases h; rfl
  | n :: ns, _, h => by
    cases h with
    | cons h1 h2 =>
      cases h1
      rw [RpL.ints_of h2]
      rfl
end

/-! ### hidden and owned addresses -/
abbrev AS := Addr → Prop
open Classical in
noncomputable def rem (W : AS) (H : Hp) : Hp := fun a => if W a then none else H a
abbrev orS (W U : AS) : AS := fun a => W a ∨ U a
abbrev noS : AS := fun _ => False
theorem rem_some {W : AS} {H : Hp} {a : Addr} {o : HO} : rem W H a = some o ↔ ¬ W a ∧ H a = some o := by
  unfold rem
  by_cases h : W a
  · rw [if_pos h]
    exact ⟨fun e => (nomatch e), fun e => absurd h e.1⟩
  · rw [if_neg h]
    exact ⟨fun e => ⟨h, e⟩, fun e => e.2⟩
theorem rem_ex {W : AS} {H : Hp} : Ex (rem W H) H := fun a o h => (rem_some.mp h).2
theorem rem_mono {W : AS} {H H' : Hp} (e : Ex H H') : Ex (rem W H) (rem W H') := fun a o h => rem_some.mpr ⟨(rem_some.mp h).1, e a o (rem_some.mp h).2⟩
theorem rem_sub {W U : AS} {H : Hp} (s : ∀ a, U a → W a) : Ex (rem W H) (rem U H) := fun a o h => rem_some.mpr ⟨fun z => (rem_some.mp h).1 (s a z), (rem_some.mp h).2⟩
theorem rem_no {H : Hp} : Ex H (rem noS H) := fun a o h => rem_some.mpr ⟨fun z => z, h⟩
/-- what stood stays visible when a new object is set aside -/
theorem rem_new {W : AS} {H H' : Hp} {p : Addr} (hp : H p = none) (e : Ex H H') : Ex (rem W H) (rem (orS W (· = p)) H') := fun a o h => by
  obtain ⟨h1, h2⟩ := rem_some.mp h
  refine rem_some.mpr ⟨fun z => ?_, e a o h2⟩
  rcases z with z | z
  · exact h1 z
  · rw [z, hp] at h2
    cases h2
/-- a hidden object may change -/
theorem rem_upd {W : AS} {H : Hp} {p : Addr} {o : HO} (hp : W p) : Ex (rem W H) (rem W (upd H p o)) := fun a u h => by
  obtain ⟨h1, h2⟩ := rem_some.mp h
  refine rem_some.mpr ⟨h1, ?_⟩
  rw [upd_ne (fun z => by subst z; exact h1 hp)]
  exact h2

/-! ### environments -/
/-- what a slot may name: frozen data, an owned node, a tuple of such -/
inductive R where
  | fz (d : D) | rf (n : Nat) | tp (rs : List R)
/-- an owned object: it may change, and may hold other owned ones -/
inductive Nd where
  | lst (rs : List R) | dct (ks : KS) (rs : List R) | obj (q : Option Addr) (x : Str) (fs : List Str) (rs : List R) | ll (dss : List (List D))
inductive Sl where
  | un | fz (d : D) | ow (ds : List D) | rt (r : R) | nd (x : Nd)
abbrev En := List Sl
mutual
inductive ROk (K : PySem.W.Frag) (H : Hp) (θ : Nat → Addr) : V → R → Prop
  | fz {v : V} {d : D} : Rp K H v d → ROk K H θ v (.fz d)
  | rf (n : Nat) : ROk K H θ (.ref (θ n)) (.rf n)
  | tp {a : Addr} {xs : List V} {rs : List R} : H a = some (.tup xs) → ROks K H θ xs rs → ROk K H θ (.ref a) (.tp rs)
inductive ROks (K : PySem.W.Frag) (H : Hp) (θ : Nat → Addr) : List V → List R → Prop
  | nil : ROks K H θ [] []
  | cons {v : V} {vs : List V} {r : R} {rs : List R} : ROk K H θ v r → ROks K H θ vs rs → ROks K H θ (v :: vs) (r :: rs)
end
section
variable {K : PySem.W.Frag} {H H' : Hp} {θ : Nat → Addr}
mutual
theorem ROk.mono (e : Ex H H') : ∀ (r : R) {v : V}, ROk K H θ v r → ROk K H' θ v r
  | .fz d, _, h => by cases h with | fz h => exact .fz (h.mono e d)
  | .rf n, _, h => by cases h; exact .rf n
  | .tp rs, _, h => by
    cases h with
    | tp h1 h2 => exact .tp (e _ _ h1) (ROks.mono e rs h2)
theorem ROks.mono (e : Ex H H') : ∀ (rs : List R) {vs : List V}, ROks K H θ vs rs → ROks K H' θ vs rs
  | [], _, h => by cases h; exact .nil
  | r :: rs, _, h => by
    cases h with
    | cons h1 h2 => exact .cons (ROk.mono e r h1) (ROks.mono e rs h2)
end
end
def MutO : HO → Prop
  | .lst _ => True
  | .dK _ => True
  | .dT _ => True
  | .ins _ _ _ => True
  | .own _ => True
  | _ => False
abbrev IsM (H : Hp) (a : Addr) : Prop := ∃ o, H a = some o ∧ MutO o
theorem IsM.lst {H : Hp} {a : Addr} {xs : List V} (h : H a = some (.lst xs)) : IsM H a := ⟨_, h, trivial⟩
theorem IsM.mono {H H' : Hp} {a : Addr} (e : Ex H H') (h : IsM H a) : IsM H' a := let ⟨o, h1, h2⟩ := h; ⟨o, e _ _ h1, h2⟩
/-- the lists at qs, item by item -/
def LLs (K : PySem.W.Frag) (H Hv : Hp) : List Addr → List (List D) → Prop
  | [], [] => True
  | q :: qs, ds :: dss => (∃ xs, H q = some (.lst xs) ∧ RpL K Hv xs ds) ∧ LLs K H Hv qs dss
  | _, _ => False
theorem LLs.mono {K : PySem.W.Frag} {H H' Hv Hv' : Hp} : ∀ {qs : List Addr} {dss : List (List D)}, LLs K H Hv qs dss → (∀ a ∈ qs, ∀ o, H a = some o → H' a = some o) → Ex Hv Hv' → LLs K H' Hv' qs dss
  | [], [], _, _, _ => trivial
  | q :: qs, ds :: dss, h, e1, e2 => ⟨let ⟨xs, h1, h2⟩ := h.1; ⟨xs, e1 q (List.mem_cons_self ..) _ h1, h2.mono e2 ds⟩, LLs.mono (qs := qs) (dss := dss) h.2 (fun a ha => e1 a (List.mem_cons_of_mem _ ha)) e2⟩
/-- the node x stands at p, its inner lists at w; what it holds is seen in Hv -/
def NdOk (K : PySem.W.Frag) (H Hv : Hp) (θ : Nat → Addr) (p : Addr) (w : List Addr) : Nd → Prop
  | .lst rs => ∃ xs, H p = some (.lst xs) ∧ ROks K Hv θ xs rs
  | .dct ks rs => ∃ xs, H p = some (ks.ho xs) ∧ ks.len = xs.length ∧ ROks K Hv θ xs rs
  | .obj q x fs rs => ∃ dx xs, (∀ a, q = some a → p = a) ∧ H p = some (.ins (He.ga K x) dx (fs.zip xs)) ∧ fs.length = xs.length ∧ ROks K Hv θ xs rs
  | .ll dss => H p = some (.lst (w.map V.ref)) ∧ w.Nodup ∧ p ∉ w ∧ LLs K H Hv w dss
theorem NdOk.mono {K : PySem.W.Frag} {H H' Hv Hv' : Hp} {θ : Nat → Addr} {p : Addr} {w : List Addr} {x : Nd} (h : NdOk K H Hv θ p w x) (e1 : ∀ a ∈ p :: w, ∀ o, H a = some o → H' a = some o) (e2 : Ex Hv Hv') : NdOk K H' Hv' θ p w x := by
  have e0 := e1 p (List.mem_cons_self ..)
  cases x with
  | lst rs => obtain ⟨xs, h1, h2⟩ := h; exact ⟨xs, e0 _ h1, h2.mono e2 rs⟩
  | dct ks rs => obtain ⟨xs, h1, h2, h3⟩ := h; exact ⟨xs, e0 _ h1, h2, h3.mono e2 rs⟩
  | obj q y fs rs => obtain ⟨dx, xs, h0, h1, h2, h3⟩ := h; exact ⟨dx, xs, h0, e0 _ h1, h2, h3.mono e2 rs⟩
  | ll dss => obtain ⟨h1, h2, h3, h4⟩ := h; exact ⟨e0 _ h1, h2, h3, h4.mono (fun a ha => e1 a (List.mem_cons_of_mem _ ha)) e2⟩
structure NodW (K : PySem.W.Frag) (hid O : AS) (H : Hp) (σ : L2.St) (E : En) (θ : Nat → Addr) (ω : Nat → List Addr) : Prop where
  nd : ∀ (n : Nat) (x : Nd), E[n]? = some (Sl.nd x) → (∀ a ∈ θ n :: ω n, O a) ∧ NdOk K H (rem (orS hid O) H) θ (θ n) (ω n) x
  inj : ∀ (n m : Nat) (x y : Nd), n ≠ m → E[n]? = some (Sl.nd x) → E[m]? = some (Sl.nd y) → ∀ a ∈ θ n :: ω n, a ∉ θ m :: ω m
  rt : ∀ (i : Nat) (r : R), E[i]? = some (Sl.rt r) → ∃ v, σ[i]? = some (some v) ∧ ROk K (rem (orS hid O) H) θ v r
  dis : ∀ (i n : Nat) (ds : List D) (x : Nd) (p : Addr), E[i]? = some (Sl.ow ds) → E[n]? = some (Sl.nd x) → σ[i]? = some (some (.ref p)) → p ∉ θ n :: ω n
theorem NodW.move {K : PySem.W.Frag} {hid O O' : AS} {H H' : Hp} {σ σ' : L2.St} {E E' : En} {θ : Nat → Addr} {ω : Nat → List Addr} (h : NodW K hid O H σ E θ ω)
    (c1 : ∀ (n : Nat) (x : Nd), E'[n]? = some (Sl.nd x) → E[n]? = some (Sl.nd x)) (c2 : ∀ (i : Nat) (r : R), E'[i]? = some (Sl.rt r) → E[i]? = some (Sl.rt r) ∧ σ'[i]? = σ[i]?)
    (c3 : ∀ (n : Nat) (x : Nd), E'[n]? = some (Sl.nd x) → ∀ a ∈ θ n :: ω n, O' a ∧ ∀ o, H a = some o → H' a = some o) (c4 : Ex (rem (orS hid O) H) (rem (orS hid O') H'))
    (c5 : ∀ (i n : Nat) (ds : List D) (x : Nd) (p : Addr), E'[i]? = some (Sl.ow ds) → E'[n]? = some (Sl.nd x) → σ'[i]? = some (some (.ref p)) → p ∉ θ n :: ω n) : NodW K hid O' H' σ' E' θ ω where
  nd := fun n x e => ⟨fun a ha => (c3 n x e a ha).1, (h.nd n x (c1 n x e)).2.mono (fun a ha => (c3 n x e a ha).2) c4⟩
  inj := fun n m x y d e1 e2 => h.inj n m x y d (c1 n x e1) (c1 m y e2)
  rt := fun i r e => by
    obtain ⟨v, h1, h2⟩ := h.rt i r (c2 i r e).1
    exact ⟨v, by rw [(c2 i r e).2]; exact h1, h2.mono c4 r⟩
  dis := c5

structure RE (K : PySem.W.Frag) (hid O : AS) (B H : Hp) (σ : L2.St) (E : En) : Prop where
  base : ∀ a o, B a = some o → H a = some o ∧ ¬ O a
  own : ∀ a, O a → ¬ hid a ∧ IsM H a
  hidd : ∀ a, hid a → IsM B a
  len : σ.length = E.length
  fz : ∀ (i : Nat) (d : D), E[i]? = some (.fz d) → ∃ v, σ[i]? = some (some v) ∧ Rp K (rem (orS hid O) H) v d
  ow : ∀ (i : Nat) (ds : List D), E[i]? = some (.ow ds) → ∃ (p : Addr) (xs : List V), σ[i]? = some (some (.ref p)) ∧ O p ∧ H p = some (.lst xs) ∧ RpL K (rem (orS hid O) H) xs ds
  dis : ∀ (i j : Nat) (p : Addr) (ds es : List D), i ≠ j → E[i]? = some (.ow ds) → E[j]? = some (.ow es) → σ[i]? = some (some (.ref p)) → σ[j]? = some (some (.ref p)) → False
  nod : ∃ (θ : Nat → Addr) (ω : Nat → List Addr), NodW K hid O H σ E θ ω

section
variable {K : PySem.W.Frag} {hid O : AS} {B H H' : Hp} {σ : L2.St} {E : En}
theorem set_at {α : Type} {xs : List α} {j i : Nat} {a b : α} (h : (xs.set j a)[i]? = some b) : (j = i ∧ a = b) ∨ (j ≠ i ∧ xs[i]? = some b) := by
  by_cases e : j = i
  · subst e
    have hl : j < xs.length := by
      have := (List.getElem?_eq_some_iff.mp h).1
      rwa [List.length_set] at this
    rw [List.getElem?_set_self hl] at h
    exact .inl ⟨rfl, Option.some.inj h⟩
  · rw [List.getElem?_set_ne e] at h
    exact .inr ⟨e, h⟩
theorem RE.ex (r : RE K hid O B H σ E) : Ex B H := fun a o h => (r.base a o h).1
theorem RE.fresh (r : RE K hid O B H σ E) {p : Addr} (h : H p = none) : ¬ orS hid O p := fun z => by
  rcases z with z | z
  · obtain ⟨o, e, _⟩ := r.hidd p z
    rw [(r.base p _ e).1] at h
    cases h
  · obtain ⟨_, o, e, _⟩ := r.own p z
    rw [e] at h
    cases h
theorem RE.grow (r : RE K hid O B H σ E) (e : Ex H H') : RE K hid O B H' σ E where
  base := fun a o h => ⟨e a o (r.base a o h).1, (r.base a o h).2⟩
  own := fun a h => ⟨(r.own a h).1, (r.own a h).2.mono e⟩
  hidd := r.hidd
  len := r.len
  fz := fun i d h => let ⟨v, h1, h2⟩ := r.fz i d h; ⟨v, h1, h2.mono (rem_mono e) d⟩
  ow := fun i ds h => let ⟨p, xs, h1, h2, h3, h4⟩ := r.ow i ds h; ⟨p, xs, h1, h2, e p _ h3, h4.mono (rem_mono e) ds⟩
  dis := r.dis
  nod := let ⟨θ, ω, N⟩ := r.nod; ⟨θ, ω, N.move (fun _ _ h => h) (fun _ _ h => ⟨h, rfl⟩) (fun n x h a ha => ⟨(N.nd n x h).1 a ha, fun o q => e _ o q⟩) (rem_mono e) N.dis⟩
/-- a slot is stored -/
theorem RE.put (r : RE K hid O B H σ E) {v : V} {d : D} (j : Nat) (h : Rp K (rem (orS hid O) H) v d) : RE K hid O B H (σ.set j (some v)) (E.set j (.fz d)) where
  base := r.base
  own := r.own
  hidd := r.hidd
  len := by rw [List.length_set, List.length_set]; exact r.len
  fz := fun i d' q => by
    have hl : i < E.length := by
      have := (List.getElem?_eq_some_iff.mp q).1
      rwa [List.length_set] at this
    rcases set_at q with ⟨rfl, e⟩ | ⟨e, q⟩
    · cases e
      exact ⟨v, List.getElem?_set_self (r.len ▸ hl), h⟩
    · rw [List.getElem?_set_ne e]
      exact r.fz i d' q
  ow := fun i ds q => by
    rcases set_at q with ⟨rfl, e⟩ | ⟨e, q⟩
    · cases e
    · rw [List.getElem?_set_ne e]
      exact r.ow i ds q
  dis := fun i k p ds es hik q1 q2 s1 s2 => by
    rcases set_at q1 with ⟨rfl, e⟩ | ⟨n1, q1⟩
    · cases e
    rcases set_at q2 with ⟨rfl, e⟩ | ⟨n2, q2⟩
    · cases e
    rw [List.getElem?_set_ne n1] at s1
    rw [List.getElem?_set_ne n2] at s2
    exact r.dis i k p ds es hik q1 q2 s1 s2
  nod := by
    obtain ⟨θ, ω, N⟩ := r.nod
    have c1 : ∀ (n : Nat) (x : Nd), (E.set j (.fz d))[n]? = some (Sl.nd x) → E[n]? = some (Sl.nd x) := fun n x q => by
      rcases set_at q with ⟨rfl, e⟩ | ⟨e, q⟩
      · cases e
      · exact q
    refine ⟨θ, ω, N.move c1 (fun i r' q => ?_) (fun n x q a ha => ⟨(N.nd n x (c1 n x q)).1 a ha, fun o z => z⟩) (Ex.refl _) (fun i n ds x p q1 q2 s1 => ?_)⟩
    · rcases set_at q with ⟨rfl, e⟩ | ⟨e, q⟩
      · cases e
      · exact ⟨q, List.getElem?_set_ne e⟩
    · rcases set_at q1 with ⟨rfl, e⟩ | ⟨e, q1⟩
      · cases e
      · rw [List.getElem?_set_ne e] at s1
        exact N.dis i n ds x p q1 (c1 n x q2) s1
/-- a slot is forgotten -/
theorem RE.drop (r : RE K hid O B H σ E) (j : Nat) : RE K hid O B H (σ.set j none) (E.set j .un) where
  base := r.base
  own := r.own
  hidd := r.hidd
  len := by rw [List.length_set, List.length_set]; exact r.len
  fz := fun i d' q => by
    rcases set_at q with ⟨rfl, e⟩ | ⟨e, q⟩
    · cases e
    · rw [List.getElem?_set_ne e]
      exact r.fz i d' q
  ow := fun i ds q => by
    rcases set_at q with ⟨rfl, e⟩ | ⟨e, q⟩
    · cases e
    · rw [List.getElem?_set_ne e]
      exact r.ow i ds q
  dis := fun i k p ds es hik q1 q2 s1 s2 => by
    rcases set_at q1 with ⟨rfl, e⟩ | ⟨n1, q1⟩
    · cases e
    rcases set_at q2 with ⟨rfl, e⟩ | ⟨n2, q2⟩
    · cases e
    rw [List.getElem?_set_ne n1] at s1
    rw [List.getElem?_set_ne n2] at s2
    exact r.dis i k p ds es hik q1 q2 s1 s2
  nod := by
    obtain ⟨θ, ω, N⟩ := r.nod
    have c1 : ∀ (n : Nat) (x : Nd), (E.set j .un)[n]? = some (Sl.nd x) → E[n]? = some (Sl.nd x) := fun n x q => by
      rcases set_at q with ⟨rfl, e⟩ | ⟨e, q⟩
      · cases e
      · exact q
    refine ⟨θ, ω, N.move c1 (fun i r' q => ?_) (fun n x q a ha => ⟨(N.nd n x (c1 n x q)).1 a ha, fun o z => z⟩) (Ex.refl _) (fun i n ds x p q1 q2 s1 => ?_)⟩
    · rcases set_at q with ⟨rfl, e⟩ | ⟨e, q⟩
      · cases e
      · exact ⟨q, List.getElem?_set_ne e⟩
    · rcases set_at q1 with ⟨rfl, e⟩ | ⟨e, q1⟩
      · cases e
      · rw [List.getElem?_set_ne e] at s1
        exact N.dis i n ds x p q1 (c1 n x q2) s1
theorem own_sub {p : Addr} : ∀ a, orS hid (orS O (· = p)) a → orS (orS hid O) (· = p) a := fun a z => by
  rcases z with z | z | z
  · exact .inl (.inl z)
  · exact .inl (.inr z)
  · exact .inr z
theorem own_vis {p : Addr} (hp : H p = none) (e : Ex H H') : Ex (rem (orS hid O) H) (rem (orS hid (orS O (· = p))) H') := fun a o q => rem_sub own_sub _ _ (rem_new (W := orS hid O) hp e a o q)
/-- a new object, owned by no slot -/
theorem RE.addO' (r : RE K hid O B H σ E) {p : Addr} (hp : H p = none) (e : Ex H H') (hx : IsM H' p) : RE K hid (orS O (· = p)) B H' σ E := by
  have vis := own_vis (hid := hid) (O := O) hp e
  refine ⟨fun a o q => ⟨e a o (r.base a o q).1, fun z => ?_⟩, fun a z => ?_, r.hidd, r.len, fun i d q => ?_, fun i es q => ?_, r.dis, ?_⟩
  · rcases z with z | z
    · exact (r.base a o q).2 z
    · subst z
      rw [(r.base _ o q).1] at hp
      cases hp
  · rcases z with z | z
    · exact ⟨(r.own a z).1, (r.own a z).2.mono e⟩
    · subst z
      exact ⟨fun w => r.fresh hp (.inl w), hx⟩
  · obtain ⟨v, h1, h2⟩ := r.fz i d q
    exact ⟨v, h1, h2.mono vis d⟩
  · obtain ⟨q', ys, h1, h2, h3, h4⟩ := r.ow i es q
    exact ⟨q', ys, h1, .inl h2, e _ _ h3, h4.mono vis es⟩
  · obtain ⟨θ, ω, N⟩ := r.nod
    exact ⟨θ, ω, N.move (fun _ _ h => h) (fun _ _ h => ⟨h, rfl⟩) (fun n x h a ha => ⟨.inl ((N.nd n x h).1 a ha), fun o q => e _ o q⟩) vis N.dis⟩
theorem RE.addO (r : RE K hid O B H σ E) {p : Addr} {xs : List V} (hp : H p = none) (e : Ex H H') (hx : H' p = some (.lst xs)) : RE K hid (orS O (· = p)) B H' σ E := r.addO' hp e (.lst hx)
/-- a new list, owned by a slot -/
theorem RE.putO (r : RE K hid O B H σ E) {p : Addr} {xs : List V} {ds : List D} (j : Nat) (hp : H p = none) (e : Ex H H') (hx : H' p = some (.lst xs)) (h : RpL K (rem (orS (orS hid O) (· = p)) H') xs ds) :
    RE K hid (orS O (· = p)) B H' (σ.set j (some (.ref p))) (E.set j (.ow ds)) := by
  have r2 := r.addO hp e hx
  have old : ∀ (i : Nat) (q : Addr) (es : List D), E[i]? = some (.ow es) → σ[i]? = some (some (V.ref q)) → q ≠ p := fun i q es z1 z2 w => by
    subst w
    obtain ⟨q', ys, h1, h2, _⟩ := r.ow i es z1
    rw [z2] at h1
    cases h1
    exact r.fresh hp (.inr h2)
  have oldN : ∀ (θ : Nat → Addr) (ω : Nat → List Addr) (N : NodW K hid O H σ E θ ω) (n : Nat) (x : Nd), E[n]? = some (Sl.nd x) → p ∉ θ n :: ω n := fun θ ω N n x z w => r.fresh hp (.inr ((N.nd n x z).1 p w))
  refine ⟨r2.base, r2.own, r2.hidd, ?_, fun i d q => ?_, fun i es q => ?_, fun i k q es fs hik q1 q2 s1 s2 => ?_, ?_⟩
  · rw [List.length_set, List.length_set]
    exact r.len
  · rcases set_at q with ⟨rfl, z⟩ | ⟨z, q⟩
    · cases z
    · rw [List.getElem?_set_ne z]
      exact r2.fz i d q
  · have hl : i < E.length := by
      have := (List.getElem?_eq_some_iff.mp q).1
      rwa [List.length_set] at this
    rcases set_at q with ⟨rfl, z⟩ | ⟨z, q⟩
    · cases z
      exact ⟨p, xs, List.getElem?_set_self (r.len ▸ hl), .inr rfl, hx, h.mono (rem_sub own_sub) ds⟩
    · rw [List.getElem?_set_ne z]
      exact r2.ow i es q
  · have hl1 : i < E.length := by
      have := (List.getElem?_eq_some_iff.mp q1).1
      rwa [List.length_set] at this
    have hl2 : k < E.length := by
      have := (List.getElem?_eq_some_iff.mp q2).1
      rwa [List.length_set] at this
    rcases set_at q1 with ⟨rfl, z⟩ | ⟨z1, q1⟩
    · rw [List.getElem?_set_self (r.len ▸ hl1)] at s1
      cases s1
      rcases set_at q2 with ⟨z2, _⟩ | ⟨z2, q2⟩
      · exact hik z2
      · rw [List.getElem?_set_ne z2] at s2
        exact old k _ fs q2 s2 rfl
    · rw [List.getElem?_set_ne z1] at s1
      rcases set_at q2 with ⟨rfl, z⟩ | ⟨z2, q2⟩
      · rw [List.getElem?_set_self (r.len ▸ hl2)] at s2
        cases s2
        exact old i _ es q1 s1 rfl
      · rw [List.getElem?_set_ne z2] at s2
        exact r.dis i k q es fs hik q1 q2 s1 s2
  · obtain ⟨θ, ω, N⟩ := r.nod
    have c1 : ∀ (n : Nat) (x : Nd), (E.set j (.ow ds))[n]? = some (Sl.nd x) → E[n]? = some (Sl.nd x) := fun n x q => by
      rcases set_at q with ⟨rfl, z⟩ | ⟨z, q⟩
      · cases z
      · exact q
    refine ⟨θ, ω, N.move c1 (fun i r' q => ?_) (fun n x q a ha => ⟨.inl ((N.nd n x (c1 n x q)).1 a ha), fun o z => e _ o z⟩) (own_vis hp e) (fun i n es x q q1 q2 s1 => ?_)⟩
    · rcases set_at q with ⟨rfl, z⟩ | ⟨z, q⟩
      · cases z
      · exact ⟨q, List.getElem?_set_ne z⟩
    · have hl1 : i < E.length := by
        have := (List.getElem?_eq_some_iff.mp q1).1
        rwa [List.length_set] at this
      rcases set_at q1 with ⟨rfl, z⟩ | ⟨z1, q1⟩
      · rw [List.getElem?_set_self (r.len ▸ hl1)] at s1
        cases s1
        exact oldN θ ω N n x (c1 n x q2)
      · rw [List.getElem?_set_ne z1] at s1
        exact N.dis i n es x q q1 (c1 n x q2) s1
/-- an owned list changes -/
theorem RE.chg (r : RE K hid O B H σ E) {p : Addr} {xs : List V} {ds ds' : List D} {j : Nat} (hj : E[j]? = some (.ow ds)) (hs : σ[j]? = some (some (.ref p))) (h : RpL K (rem (orS hid O) H) xs ds') :
    RE K hid O B (upd H p (.lst xs)) σ (E.set j (.ow ds')) := by
  obtain ⟨p', xs0, g1, hO, hH, g4⟩ := r.ow j ds hj
  rw [hs] at g1
  cases g1
  have vis : Ex (rem (orS hid O) H) (rem (orS hid O) (upd H p (.lst xs))) := rem_upd (.inr hO)
  have eo : ∀ a o, a ≠ p → H a = some o → upd H p (.lst xs) a = some o := fun a o n q => by rw [upd_ne n]; exact q
  refine ⟨fun a o q => ⟨eo a o (fun z => (r.base a o q).2 (z ▸ hO)) (r.base a o q).1, (r.base a o q).2⟩, fun a z => ⟨(r.own a z).1, ?_⟩, r.hidd, ?_, fun i d q => ?_, fun i es q => ?_, fun i k q es fs hik q1 q2 s1 s2 => ?_, ?_⟩
  · by_cases e : a = p
    · subst e
      exact ⟨_, upd_same, trivial⟩
    · obtain ⟨o, q, m⟩ := (r.own a z).2
      exact ⟨o, eo a _ e q, m⟩
  · rw [List.length_set]
    exact r.len
  · rcases set_at q with ⟨rfl, z⟩ | ⟨z, q⟩
    · cases z
    obtain ⟨v, h1, h2⟩ := r.fz i d q
    exact ⟨v, h1, h2.mono vis d⟩
  · rcases set_at q with ⟨rfl, z⟩ | ⟨z, q⟩
    · cases z
      exact ⟨p, xs, hs, hO, upd_same, h.mono vis ds'⟩
    · obtain ⟨q', ys, h1, h2, h3, h4⟩ := r.ow i es q
      have hne : q' ≠ p := fun w => by
        subst w
        exact r.dis j i _ ds es z hj q hs h1
      exact ⟨q', ys, h1, h2, eo _ _ hne h3, h4.mono vis es⟩
  · have old : ∀ (i : Nat) (es : List D), (E.set j (.ow ds'))[i]? = some (Sl.ow es) → ∃ gs, E[i]? = some (Sl.ow gs) := fun i es q => by
      rcases set_at q with ⟨rfl, z⟩ | ⟨z, q⟩
      · exact ⟨ds, hj⟩
      · exact ⟨es, q⟩
    obtain ⟨g1, e1⟩ := old i es q1
    obtain ⟨g2, e2⟩ := old k fs q2
    exact r.dis i k q g1 g2 hik e1 e2 s1 s2
  · obtain ⟨θ, ω, N⟩ := r.nod
    have c1 : ∀ (n : Nat) (x : Nd), (E.set j (.ow ds'))[n]? = some (Sl.nd x) → E[n]? = some (Sl.nd x) := fun n x q => by
      rcases set_at q with ⟨rfl, z⟩ | ⟨z, q⟩
      · cases z
      · exact q
    refine ⟨θ, ω, N.move c1 (fun i r' q => ?_) (fun n x q a ha => ⟨(N.nd n x (c1 n x q)).1 a ha, fun o z => eo _ o (fun w => N.dis j n ds x p hj (c1 n x q) hs (w ▸ ha)) z⟩) vis (fun i n es x q q1 q2 s1 => ?_)⟩
    · rcases set_at q with ⟨rfl, z⟩ | ⟨z, q⟩
      · cases z
      · exact ⟨q, rfl⟩
    · rcases set_at q1 with ⟨rfl, z⟩ | ⟨z1, q1⟩
      · rw [hs] at s1
        cases s1
        exact N.dis j n ds x _ hj (c1 n x q2) hs
      · exact N.dis i n es x q q1 (c1 n x q2) s1
/-- an owned list becomes like any other value -/
theorem RE.frz (r : RE K hid O B H σ E) {ds : List D} {j : Nat} (hj : E[j]? = some (.ow ds)) : ∃ O', RE K hid O' B H σ (E.set j (.fz (.lst ds))) ∧ ∀ a, O' a → O a := by
  obtain ⟨p, xs, hs, hO, hH, h4⟩ := r.ow j ds hj
  have vis : Ex (rem (orS hid O) H) (rem (orS hid fun a => O a ∧ a ≠ p) H) := rem_sub fun a z => z.elim .inl fun z => .inr z.1
  refine ⟨fun a => O a ∧ a ≠ p, ⟨fun a o q => ⟨(r.base a o q).1, fun z => (r.base a o q).2 z.1⟩, fun a z => r.own a z.1, r.hidd, ?_, fun i d q => ?_, fun i es q => ?_, fun i k q es fs hik q1 q2 s1 s2 => ?_, ?_⟩, fun a z => z.1⟩
  · rw [List.length_set]
    exact r.len
  · rcases set_at q with ⟨rfl, z⟩ | ⟨z, q⟩
    · cases z
      refine ⟨.ref p, hs, .lst (rem_some.mpr ⟨fun z => ?_, hH⟩) (h4.mono vis ds)⟩
      rcases z with z | z
      · exact (r.own p hO).1 z
      · exact z.2 rfl
    · obtain ⟨v, h1, h2⟩ := r.fz i d q
      exact ⟨v, h1, h2.mono vis d⟩
  · rcases set_at q with ⟨rfl, z⟩ | ⟨hi, q⟩
    · cases z
    obtain ⟨q', ys, h1, h2, h3, h4'⟩ := r.ow i es q
    exact ⟨q', ys, h1, ⟨h2, fun z => by subst z; exact r.dis j i _ ds es hi hj q hs h1⟩, h3, h4'.mono vis es⟩
  · have n : ∀ (i : Nat) (es : List D), (E.set j (.fz (.lst ds)))[i]? = some (Sl.ow es) → E[i]? = some (Sl.ow es) := fun i es q => by
      rcases set_at q with ⟨rfl, z⟩ | ⟨z, q⟩
      · cases z
      · exact q
    exact r.dis i k q es fs hik (n i es q1) (n k fs q2) s1 s2
  · obtain ⟨θ, ω, N⟩ := r.nod
    have c1 : ∀ (n : Nat) (x : Nd), (E.set j (.fz (.lst ds)))[n]? = some (Sl.nd x) → E[n]? = some (Sl.nd x) := fun n x q => by
      rcases set_at q with ⟨rfl, z⟩ | ⟨z, q⟩
      · cases z
      · exact q
    refine ⟨θ, ω, N.move c1 (fun i r' q => ?_) (fun n x q a ha => ⟨⟨(N.nd n x (c1 n x q)).1 a ha, fun w => N.dis j n ds x p hj (c1 n x q) hs (w ▸ ha)⟩, fun o z => z⟩) vis (fun i n es x q q1 q2 s1 => ?_)⟩
    · rcases set_at q with ⟨rfl, z⟩ | ⟨z, q⟩
      · cases z
      · exact ⟨q, rfl⟩
    · rcases set_at q1 with ⟨rfl, z⟩ | ⟨z1, q1⟩
      · cases z
      · exact N.dis i n es x q q1 (c1 n x q2) s1
/-- the entry of a def -/
theorem start_at {ds : List D} {k i : Nat} {s : Sl} (h : (ds.map Sl.fz ++ List.replicate k Sl.un)[i]? = some s) : (i < ds.length ∧ ∃ d, ds[i]? = some d ∧ s = .fz d) ∨ s = .un := by
  by_cases hi : i < ds.length
  · rw [List.getElem?_append_left (by rw [List.length_map]; exact hi), List.getElem?_map, List.getElem?_eq_getElem hi] at h
    cases h
    exact .inl ⟨hi, _, List.getElem?_eq_getElem hi, rfl⟩
  · rw [List.getElem?_append_right (by rw [List.length_map]; omega), List.getElem?_replicate] at h
    split at h
    · exact .inr (Option.some.inj h).symm
    · cases h
theorem start_nd {ds : List D} {k i : Nat} {x : Nd} (h : (ds.map Sl.fz ++ List.replicate k Sl.un)[i]? = some (Sl.nd x)) : False := by
  rcases start_at h with ⟨_, _, _, z⟩ | z <;> cases z
theorem start_rt {ds : List D} {k i : Nat} {x : R} (h : (ds.map Sl.fz ++ List.replicate k Sl.un)[i]? = some (Sl.rt x)) : False := by
  rcases start_at h with ⟨_, _, _, z⟩ | z <;> cases z
theorem RE.start {vs : List V} {ds : List D} {N : List Str} (hd : ∀ a, hid a → IsM H a) (h : RpL K (rem hid H) vs ds) : RE K hid noS H H (start N vs) (ds.map Sl.fz ++ List.replicate (N.length - ds.length) Sl.un) where
  base := fun a o q => ⟨q, fun z => z⟩
  own := fun a z => z.elim
  hidd := hd
  len := by
    unfold L2.start
    rw [List.length_append, List.length_append, List.length_map, List.length_map, List.length_replicate, List.length_replicate, h.length]
  fz := fun i d q => by
    rcases start_at q with ⟨hi, d', e, z⟩ | z
    · cases z
      obtain ⟨v, e1, e2⟩ := h.get e
      refine ⟨v, ?_, e2.mono (rem_sub fun a z => z.elim id (fun z => z.elim)) _⟩
      unfold L2.start
      rw [List.getElem?_append_left (by rw [List.length_map, h.length]; exact hi), List.getElem?_map, e1]
      rfl
    · cases z
  ow := fun i es q => by
    rcases start_at q with ⟨_, _, _, z⟩ | z <;> cases z
  dis := fun i k p es fs _ q _ _ _ => by
    rcases start_at q with ⟨_, _, _, z⟩ | z <;> cases z
  nod := ⟨fun _ => 0, fun _ => [], fun n x q => (start_nd q).elim, fun n m x y _ q _ => (start_nd q).elim, fun i r q => (start_rt q).elim, fun i n ds x p q1 q _ => (start_nd q).elim⟩
end

/-! ### what holds no owned object -/
mutual
@[simp] def closed : R → Option D
  | .fz d => some d
  | .rf _ => none
  | .tp rs => (closeds rs).map .tup
@[simp] def closeds : List R → Option (List D)
  | [] => some []
  | r :: rs => (closed r).bind fun d => (closeds rs).map (d :: ·)
end
mutual
theorem closed_ok {K : PySem.W.Frag} {H : Hp} {θ : Nat → Addr} : ∀ (r : R) {v : V} {d : D}, ROk K H θ v r → closed r = some d → Rp K H v d
  | .fz d, v, d', h, e => by
    cases h with | fz h => rw [closed] at e; cases e; exact h
  | .rf n, v, d', h, e => by rw [closed] at e; cases e
  | .tp rs, v, d', h, e => by
    rw [closed] at e
    cases e1 : closeds rs with
    | none => rw [e1] at e; cases e
    | some ds =>
      rw [e1] at e
      cases e
      cases h with
      | tp h1 h2 => exact .tup h1 (closeds_ok rs h2 e1)
theorem closeds_ok {K : PySem.W.Frag} {H : Hp} {θ : Nat → Addr} : ∀ (rs : List R) {vs : List V} {ds : List D}, ROks K H θ vs rs → closeds rs = some ds → RpL K H vs ds
  | [], vs, ds, h, e => by
    rw [closeds] at e
    cases e
    cases h
    exact .nil
  | r :: rs, vs, ds, h, e => by
    rw [closeds] at e
    cases e1 : closed r with
    | none => rw [e1] at e; cases e
    | some d =>
      rw [e1] at e
      cases e2 : closeds rs with
      | none => rw [e2] at e; cases e
      | some ds' =>
        rw [e2] at e
        cases e
        cases h with
        | cons h1 h2 => exact .cons (closed_ok r h1 e1) (closeds_ok rs h2 e2)
end
theorem closeds_fz : ∀ (ds : List D), closeds (ds.map .fz) = some ds
  | [] => rfl
  | d :: ds => by
    rw [List.map_cons, closeds, closed, closeds_fz ds]
    rfl
theorem ROks.fz {K : PySem.W.Frag} {H : Hp} {θ : Nat → Addr} : ∀ {vs : List V} {ds : List D}, RpL K H vs ds → ROks K H θ vs (ds.map .fz)
  | _, [], h => by cases h; exact .nil
  | _, d :: ds, h => by
    cases h with
    | cons h1 h2 => exact .cons (.fz h1) (ROks.fz h2)
end Sx

set_option Elab.async false
set_option linter.all false
set_option maxRecDepth 100000
set_option maxHeartbeats 1000000
namespace Sx
open PySem PySem.Spec PyProof.Rows L2
open Evl (Ex)

@[simp] def isN : D → Bool
  | .non => true
  | _ => false
def isN0 : D → Prop
  | .non => False
  | _ => True
/-- the object at v is owned; what it holds is seen -/
def OwT (K : PySem.W.Frag) (O : AS) (H Hv : Hp) (v : V) : D → Prop
  | .lst ds => ∃ p xs, v = .ref p ∧ O p ∧ H p = some (.lst xs) ∧ RpL K Hv xs ds
  | .dct ks ds => ∃ p xs, v = .ref p ∧ O p ∧ H p = some (ks.ho xs) ∧ ks.len = xs.length ∧ RpL K Hv xs ds
  | .obj x fs ds => ∃ p dx xs, v = .ref p ∧ O p ∧ H p = some (.ins (He.ga K x) dx (fs.zip xs)) ∧ fs.length = xs.length ∧ RpL K Hv xs ds
  | _ => False
/-- a value; an owned object may be named, too -/
def Tv (K : PySem.W.Frag) (hid O : AS) (H : Hp) (v : V) (d : D) : Prop :=
  Rp K (rem (orS hid O) H) v d ∨ OwT K O H (rem (orS hid O) H) v d
abbrev Al (hid O : AS) (H : Hp) : Prop := ∀ p, H p = none → ¬ orS hid O p
section
variable {K : PySem.W.Frag} {hid O : AS} {B H H' : Hp} {σ : L2.St} {E : En} {v : V} {d : D}
theorem OwT.ref {Hv : Hp} (h : OwT K O H Hv v d) : ∃ p, v = .ref p ∧ O p ∧ (isN0 d) := by
  cases d <;> try exact h.elim
  · obtain ⟨p, xs, h1, h2, _⟩ := h; exact ⟨p, h1, h2, trivial⟩
  · obtain ⟨p, xs, h1, h2, _⟩ := h; exact ⟨p, h1, h2, trivial⟩
  · obtain ⟨p, dx, xs, h1, h2, _⟩ := h; exact ⟨p, h1, h2, trivial⟩
theorem Tv.mono (e : Ex H H') (h : Tv K hid O H v d) : Tv K hid O H' v d := by
  rcases h with h | h
  · exact .inl (h.mono (rem_mono e) d)
  · right
    cases d <;> try exact h.elim
    · obtain ⟨p, xs, h1, h2, h3, h4⟩ := h
      exact ⟨p, xs, h1, h2, e p _ h3, h4.mono (rem_mono e) _⟩
    · obtain ⟨p, xs, h1, h2, h3, h4, h5⟩ := h
      exact ⟨p, xs, h1, h2, e p _ h3, h4, h5.mono (rem_mono e) _⟩
    · obtain ⟨p, dx, xs, h1, h2, h3, h4, h5⟩ := h
      exact ⟨p, dx, xs, h1, h2, e p _ h3, h4, h5.mono (rem_mono e) _⟩
theorem Tv.lst {ds : List D} (h : Tv K hid O H v (.lst ds)) : ∃ p xs, v = .ref p ∧ H p = some (.lst xs) ∧ RpL K (rem (orS hid O) H) xs ds := by
  rcases h with h | ⟨p, xs, h2, h3, h4, h5⟩
  · cases h with
    | lst h1 h2 => exact ⟨_, _, rfl, (rem_some.mp h1).2, h2⟩
  · exact ⟨p, xs, h2, h4, h5⟩
theorem Tv.dct {ks : KS} {ds : List D} (h : Tv K hid O H v (.dct ks ds)) : ∃ p xs, v = .ref p ∧ H p = some (ks.ho xs) ∧ ks.len = xs.length ∧ RpL K (rem (orS hid O) H) xs ds := by
  rcases h with h | ⟨p, xs, h2, h3, h4, h5, h6⟩
  · cases h with
    | dct h1 h2 h3 => exact ⟨_, _, rfl, (rem_some.mp h1).2, h2, h3⟩
  · exact ⟨p, xs, h2, h4, h5, h6⟩
theorem Tv.obj {x : Str} {fs : List Str} {ds : List D} (h : Tv K hid O H v (.obj x fs ds)) : ∃ p dx xs, v = .ref p ∧ H p = some (.ins (He.ga K x) dx (fs.zip xs)) ∧ fs.length = xs.length ∧ RpL K (rem (orS hid O) H) xs ds := by
  rcases h with h | ⟨p, dx, xs, h2, h3, h4, h5, h6⟩
  · cases h with
    | obj h1 h2 h3 => exact ⟨_, _, _, rfl, (rem_some.mp h1).2, h2, h3⟩
  · exact ⟨p, dx, xs, h2, h4, h5, h6⟩
theorem Tv.full (h : Tv K hid O H v d) : Rp K H v d := by
  rcases h with h | h
  · exact h.mono rem_ex d
  · cases d <;> try exact h.elim
    · obtain ⟨p, xs, rfl, h2, h3, h4⟩ := h
      exact .lst h3 (h4.mono rem_ex _)
    · obtain ⟨p, xs, rfl, h2, h3, h4, h5⟩ := h
      exact .dct h3 h4 (h5.mono rem_ex _)
    · obtain ⟨p, dx, xs, rfl, h2, h3, h4, h5⟩ := h
      exact .obj h3 h4 (h5.mono rem_ex _)
/-- .. where what is owned, but for p, stays hidden -/
theorem Tv.show (h : Tv K hid O H v d) (hh : ∀ p, O p → ¬ hid p) : Rp K (rem hid H) v d := by
  have sub : Ex (rem (orS hid O) H) (rem hid H) := rem_sub fun a z => .inl z
  rcases h with h | h
  · exact h.mono sub d
  · cases d <;> try exact h.elim
    · obtain ⟨p, xs, rfl, h2, h3, h4⟩ := h
      exact .lst (rem_some.mpr ⟨hh p h2, h3⟩) (h4.mono sub _)
    · obtain ⟨p, xs, rfl, h2, h3, h4, h5⟩ := h
      exact .dct (rem_some.mpr ⟨hh p h2, h3⟩) h4 (h5.mono sub _)
    · obtain ⟨p, dx, xs, rfl, h2, h3, h4, h5⟩ := h
      exact .obj (rem_some.mpr ⟨hh p h2, h3⟩) h4 (h5.mono sub _)
theorem Tv.int {i : Int} (h : Tv K hid O H v (.int i)) : v = .int i := by
  rcases h with h | h
  · cases h; rfl
  · exact h.elim
theorem Tv.bl {i : Bool} (h : Tv K hid O H v (.bl i)) : v = .bl i := by
  rcases h with h | h
  · cases h; rfl
  · exact h.elim
theorem Tv.str {i : Str} (h : Tv K hid O H v (.str i)) : v = .str i := by
  rcases h with h | h
  · cases h; rfl
  · exact h.elim
theorem Tv.non (h : Tv K hid O H v .non) : v = .non := by
  rcases h with h | h
  · cases h; rfl
  · exact h.elim
theorem Tv.tup {ds : List D} (h : Tv K hid O H v (.tup ds)) : ∃ p xs, v = .ref p ∧ rem (orS hid O) H p = some (.tup xs) ∧ RpL K (rem (orS hid O) H) xs ds := by
  rcases h with h | h
  · cases h with
    | tup h1 h2 => exact ⟨_, _, rfl, h1, h2⟩
  · exact h.elim
theorem Tv.scr {ns : List Int} (h : Tv K hid O H v (.scr ns)) : ∃ p, v = .ref p ∧ SqL K H p (ns.map V.int) := by
  rcases h with h | h
  · cases h with
    | scr h1 => exact ⟨_, rfl, Evl.ex_l rem_ex h1⟩
  · exact h.elim
theorem al_of (r : RE K hid O B H σ E) : Al hid O H := fun p h => r.fresh h
/-- a list as a sequence to read -/
theorem Tv.seq {ds : List D} (h : Tv K hid O H v (.lst ds)) : ∃ p xs, v = .ref p ∧ SqL K H p xs ∧ RpL K (rem (orS hid O) H) xs ds := by
  obtain ⟨p, xs, e, h1, h2⟩ := h.lst
  exact ⟨p, xs, e, .inl (.inl h1), h2⟩
theorem vis_new {p : Addr} {o : HO} (hn : ¬ orS hid O p) (h : H p = some o) : rem (orS hid O) H p = some o := rem_some.mpr ⟨hn, h⟩
end

/-! ### what simulates what -/
section
variable (K : PySem.W.Frag)
def SE (te : TE) (m : En → Option D) : Prop := ∀ (hid O : AS) (B H : Hp) (σ : L2.St) (E : En) (d : D), RE K hid O B H σ E → m E = some d → ∀ Q : VK, (∀ v H', Ex H H' → Rp K (rem (orS hid O) H') v d → Q v H') → te σ H Q
def ST (te : TE) (m : En → Option D) : Prop := ∀ (hid O : AS) (B H : Hp) (σ : L2.St) (E : En) (d : D), RE K hid O B H σ E → m E = some d → ∀ Q : VK, (∀ v H', Ex H H' → Tv K hid O H' v d → Q v H') → te σ H Q
def SF (te : TE) (m : En → Option (List D)) : Prop := ∀ (hid O : AS) (B H : Hp) (σ : L2.St) (E : En) (ds : List D), RE K hid O B H σ E → m E = some ds → ∀ Q : VK,
  (∀ p xs H', H p = none → Ex H H' → H' p = some (.lst xs) → RpL K (rem (orS (orS hid O) (· = p)) H') xs ds → Q (.ref p) H') → te σ H Q
def SB (tt : TT) (m : En → Option Bool) : Prop := ∀ (hid O : AS) (B H : Hp) (σ : L2.St) (E : En) (b : Bool), RE K hid O B H σ E → m E = some b → ∀ Q : Bool → Hp → Prop, (∀ H', Ex H H' → Q b H') → tt σ H Q
def SA (ta : TA) (m : En → Option (List D)) : Prop := ∀ (hid O : AS) (B H : Hp) (σ : L2.St) (E : En) (ds : List D), RE K hid O B H σ E → m E = some ds → ∀ Q : List V → Hp → Prop, (∀ vs H', Ex H H' → RpL K (rem (orS hid O) H') vs ds → Q vs H') → ta σ H Q
/-- arguments that may name owned lists: told by what the whole heap shows -/
def SAT (ta : TA) (m : En → Option (List D)) : Prop := ∀ (hid O : AS) (B H : Hp) (σ : L2.St) (E : En) (ds : List D), RE K hid O B H σ E → m E = some ds → ∀ Q : List V → Hp → Prop, (∀ vs H', Ex H H' → RpL K H' vs ds → Q vs H') → ta σ H Q
def SO (to : TO) (m : En → Option (Option Int)) : Prop := ∀ (hid O : AS) (B H : Hp) (σ : L2.St) (E : En) (o : Option Int), RE K hid O B H σ E → m E = some o → ∀ Q : Option Int → Hp → Prop, (∀ H', Ex H H' → Q o H') → to σ H Q
/-- an operation by values -/
def OD (r : R2) (f : D → D → Option D) : Prop := ∀ (hid O : AS) (H : Hp) (x y : V) (a b d : D), Al hid O H → Tv K hid O H x a → Tv K hid O H y b → f a b = some d → ∀ Q : VK, (∀ v H', Ex H H' → Rp K (rem (orS hid O) H') v d → Q v H') → r x y H Q
end

/-! ### with the term of the layer; the canonical readings -/
section
variable (K : PySem.W.Frag)
def tE (m : En → Option D) : TE := fun σ H Q => ∃ (hid O : AS) (B : Hp) (E : En) (d : D), RE K hid O B H σ E ∧ m E = some d ∧ ∀ v H', Ex H H' → Rp K (rem (orS hid O) H') v d → Q v H'
def tT (m : En → Option D) : TE := fun σ H Q => ∃ (hid O : AS) (B : Hp) (E : En) (d : D), RE K hid O B H σ E ∧ m E = some d ∧ ∀ v H', Ex H H' → Tv K hid O H' v d → Q v H'
def tF (m : En → Option (List D)) : TE := fun σ H Q => ∃ (hid O : AS) (B : Hp) (E : En) (ds : List D), RE K hid O B H σ E ∧ m E = some ds ∧ ∀ p xs H', H p = none → Ex H H' → H' p = some (.lst xs) → RpL K (rem (orS (orS hid O) (· = p)) H') xs ds → Q (.ref p) H'
def tBq (m : En → Option Bool) : TT := fun σ H Q => ∃ (hid O : AS) (B : Hp) (E : En) (b : Bool), RE K hid O B H σ E ∧ m E = some b ∧ ∀ H', Ex H H' → Q b H'
def tAq (m : En → Option (List D)) : TA := fun σ H Q => ∃ (hid O : AS) (B : Hp) (E : En) (ds : List D), RE K hid O B H σ E ∧ m E = some ds ∧ ∀ vs H', Ex H H' → RpL K (rem (orS hid O) H') vs ds → Q vs H'
def tATq (m : En → Option (List D)) : TA := fun σ H Q => ∃ (hid O : AS) (B : Hp) (E : En) (ds : List D), RE K hid O B H σ E ∧ m E = some ds ∧ ∀ vs H', Ex H H' → RpL K H' vs ds → Q vs H'
def tOq (m : En → Option (Option Int)) : TO := fun σ H Q => ∃ (hid O : AS) (B : Hp) (E : En) (o : Option Int), RE K hid O B H σ E ∧ m E = some o ∧ ∀ H', Ex H H' → Q o H'
end
def DE (X : Cx) (e : Expr) (m : En → Option D) : Prop := ∃ te, PE X e te ∧ SE X.K te m
def DT (X : Cx) (e : Expr) (m : En → Option D) : Prop := ∃ te, PE X e te ∧ ST X.K te m
def DF (X : Cx) (e : Expr) (m : En → Option (List D)) : Prop := ∃ te, PE X e te ∧ SF X.K te m
def DB (X : Cx) (e : Expr) (m : En → Option Bool) : Prop := ∃ tt, PT X e tt ∧ SB X.K tt m
def DW (X : Cx) (e : Expr) (m : En → Option Bool) : Prop := ∃ tt, PW X e tt ∧ SB X.K tt m
def DA (X : Cx) (es : List Expr) (m : En → Option (List D)) : Prop := ∃ ta, PA X es ta ∧ SA X.K ta m
def DAT (X : Cx) (es : List Expr) (m : En → Option (List D)) : Prop := ∃ ta, PA X es ta ∧ SAT X.K ta m
def DO (X : Cx) (e : Option Expr) (m : En → Option (Option Int)) : Prop := ∃ to, PO X e to ∧ SO X.K to m
section
variable {X : Cx} {e : Expr} {es : List Expr} {oe : Option Expr} {m : En → Option D} {mf : En → Option (List D)} {mb : En → Option Bool} {mo : En → Option (Option Int)}
theorem DE.pe (h : DE X e m) : PE X e (tE X.K m) := by
  obtain ⟨te, p, s⟩ := h
  exact ⟨fun pins s0 σ H Q I h => p.run pins s0 σ H Q I (by obtain ⟨hid, O, B, E, d, r, hm, q⟩ := h; exact s hid O B H σ E d r hm Q q)⟩
theorem DE.si (h : DE X e m) : SE X.K (tE X.K m) m := fun hid O B H σ E d r hm Q q => ⟨hid, O, B, E, d, r, hm, q⟩
theorem DT.pe (h : DT X e m) : PE X e (tT X.K m) := by
  obtain ⟨te, p, s⟩ := h
  exact ⟨fun pins s0 σ H Q I h => p.run pins s0 σ H Q I (by obtain ⟨hid, O, B, E, d, r, hm, q⟩ := h; exact s hid O B H σ E d r hm Q q)⟩
theorem DT.si (h : DT X e m) : ST X.K (tT X.K m) m := fun hid O B H σ E d r hm Q q => ⟨hid, O, B, E, d, r, hm, q⟩
theorem DF.pe (h : DF X e mf) : PE X e (tF X.K mf) := by
  obtain ⟨te, p, s⟩ := h
  exact ⟨fun pins s0 σ H Q I h => p.run pins s0 σ H Q I (by obtain ⟨hid, O, B, E, d, r, hm, q⟩ := h; exact s hid O B H σ E d r hm Q q)⟩
theorem DF.si (h : DF X e mf) : SF X.K (tF X.K mf) mf := fun hid O B H σ E d r hm Q q => ⟨hid, O, B, E, d, r, hm, q⟩
theorem DB.pt (h : DB X e mb) : PT X e (tBq X.K mb) := by
  obtain ⟨te, p, s⟩ := h
  exact ⟨fun pins s0 σ H Q I h => p.run pins s0 σ H Q I (by obtain ⟨hid, O, B, E, d, r, hm, q⟩ := h; exact s hid O B H σ E d r hm Q q)⟩
theorem DB.si (h : DB X e mb) : SB X.K (tBq X.K mb) mb := fun hid O B H σ E d r hm Q q => ⟨hid, O, B, E, d, r, hm, q⟩
theorem DW.pw (h : DW X e mb) : PW X e (tBq X.K mb) := by
  obtain ⟨te, p, s⟩ := h
  exact ⟨fun w pins s0 σ H Q I h => p.run w pins s0 σ H Q I (by obtain ⟨hid, O, B, E, d, r, hm, q⟩ := h; exact s hid O B H σ E d r hm Q q)⟩
theorem DW.si (h : DW X e mb) : SB X.K (tBq X.K mb) mb := fun hid O B H σ E d r hm Q q => ⟨hid, O, B, E, d, r, hm, q⟩
theorem DA.pa (h : DA X es mf) : PA X es (tAq X.K mf) := by
  obtain ⟨te, p, s⟩ := h
  exact ⟨fun w pins s0 σ H Q I h => p.run w pins s0 σ H Q I (by obtain ⟨hid, O, B, E, d, r, hm, q⟩ := h; exact s hid O B H σ E d r hm Q q)⟩
theorem DA.si (h : DA X es mf) : SA X.K (tAq X.K mf) mf := fun hid O B H σ E d r hm Q q => ⟨hid, O, B, E, d, r, hm, q⟩
theorem DAT.pa (h : DAT X es mf) : PA X es (tATq X.K mf) := by
  obtain ⟨te, p, s⟩ := h
  exact ⟨fun w pins s0 σ H Q I h => p.run w pins s0 σ H Q I (by obtain ⟨hid, O, B, E, d, r, hm, q⟩ := h; exact s hid O B H σ E d r hm Q q)⟩
theorem DAT.si (h : DAT X es mf) : SAT X.K (tATq X.K mf) mf := fun hid O B H σ E d r hm Q q => ⟨hid, O, B, E, d, r, hm, q⟩
theorem DO.po (h : DO X oe mo) : PO X oe (tOq X.K mo) := by
  obtain ⟨te, p, s⟩ := h
  exact ⟨fun pins s0 σ H Q I h => p.run pins s0 σ H Q I (by obtain ⟨hid, O, B, E, d, r, hm, q⟩ := h; exact s hid O B H σ E d r hm Q q)⟩
theorem DO.si (h : DO X oe mo) : SO X.K (tOq X.K mo) mo := fun hid O B H σ E d r hm Q q => ⟨hid, O, B, E, d, r, hm, q⟩
end

/-! ### the mirrors -/
@[simp] def ndT : Nd → Option D
  | .lst rs => (closeds rs).map .lst
  | .dct ks rs => (closeds rs).map (.dct ks)
  | .obj _ x fs rs => (closeds rs).map (.obj x fs)
  | .ll _ => none
@[simp] def rT (E : En) : R → Option D
  | .fz d => some d
  | .rf n => match E[n]? with
    | some (.nd x) => ndT x
    | _ => none
  | .tp rs => (closeds rs).map .tup
@[simp] def mVar (i : Nat) : En → Option D := fun E => match E[i]? with
  | some (.fz d) => some d
  | some (.rt r) => closed r
  | _ => none
@[simp] def mVarT (i : Nat) : En → Option D := fun E => match E[i]? with
  | some (.fz d) => some d
  | some (.ow ds) => some (.lst ds)
  | some (.rt r) => rT E r
  | _ => none
@[simp] def mC (d : D) : En → Option D := fun _ => some d
@[simp] def mBin (f : D → D → Option D) (a b : En → Option D) : En → Option D := fun E => (a E).bind fun x => (b E).bind fun y => f x y
@[simp] def mUn (f : D → Option D) (a : En → Option D) : En → Option D := fun E => (a E).bind f
@[simp] def mList (a : En → Option (List D)) : En → Option D := fun E => (a E).map .lst
@[simp] def mTup (a : En → Option (List D)) : En → Option D := fun E => (a E).bind fun ds => if ds.length ≤ 100000 then some (.tup ds) else none
@[simp] def mNil : En → Option (List D) := fun _ => some []
@[simp] def mCons (a : En → Option D) (b : En → Option (List D)) : En → Option (List D) := fun E => (a E).bind fun x => (b E).map fun xs => x :: xs
@[simp] def mLst (a : En → Option (List D)) : En → Option (List D) := fun E => (a E).bind fun ds => if ds.length ≤ 100000 then some ds else none

theorem bind_some {α β : Type} {x : Option α} {f : α → Option β} {b : β} (h : x.bind f = some b) : ∃ a, x = some a ∧ f a = some b := by
  cases x with
  | none => cases h
  | some a => exact ⟨a, rfl, h⟩
theorem map_some {α β : Type} {x : Option α} {f : α → β} {b : β} (h : x.map f = some b) : ∃ a, x = some a ∧ f a = b := by
  cases x with
  | none => cases h
  | some a => exact ⟨a, rfl, Option.some.inj h⟩
theorem ite_some {α : Type} {c : Prop} [Decidable c] {x y : α} (h : (if c then some x else none) = some y) : c ∧ x = y := by
  by_cases hc : c
  · rw [if_pos hc] at h
    exact ⟨hc, Option.some.inj h⟩
  · rw [if_neg hc] at h
    cases h

theorem NodW.nodeT {K : PySem.W.Frag} {hid O : AS} {H : Hp} {σ : L2.St} {E : En} {θ : Nat → Addr} {ω : Nat → List Addr} (N : NodW K hid O H σ E θ ω) {n : Nat} {x : Nd} {d : D} (hn : E[n]? = some (.nd x)) (hx : ndT x = some d) : Tv K hid O H (.ref (θ n)) d := by
  obtain ⟨ho, hk⟩ := N.nd n x hn
  have h0 := ho _ (List.mem_cons_self ..)
  cases x with
  | lst rs =>
    obtain ⟨ds, e1, rfl⟩ := map_some hx
    obtain ⟨xs, k1, k2⟩ := hk
    exact .inr ⟨_, xs, rfl, h0, k1, closeds_ok rs k2 e1⟩
  | dct ks rs =>
    obtain ⟨ds, e1, rfl⟩ := map_some hx
    obtain ⟨xs, k1, k2, k3⟩ := hk
    exact .inr ⟨_, xs, rfl, h0, k1, k2, closeds_ok rs k3 e1⟩
  | obj q y fs rs =>
    obtain ⟨ds, e1, rfl⟩ := map_some hx
    obtain ⟨dx, xs, _, k1, k2, k3⟩ := hk
    exact .inr ⟨_, dx, xs, rfl, h0, k1, k2, closeds_ok rs k3 e1⟩
  | ll dss => cases hx
theorem NodW.tv {K : PySem.W.Frag} {hid O : AS} {H : Hp} {σ : L2.St} {E : En} {θ : Nat → Addr} {ω : Nat → List Addr} (N : NodW K hid O H σ E θ ω) {v : V} {r : R} {d : D} (h : ROk K (rem (orS hid O) H) θ v r) (hm : rT E r = some d) : Tv K hid O H v d := by
  cases r with
  | fz d' =>
    cases h with
    | fz h => cases hm; exact .inl h
  | rf n =>
    cases h
    rw [rT] at hm
    split at hm
    · exact N.nodeT ‹_› hm
    · cases hm
  | tp rs =>
    obtain ⟨ds, e1, rfl⟩ := map_some hm
    cases h with
    | tp h1 h2 => exact .inl (.tup h1 (closeds_ok rs h2 e1))
section
variable {X : Cx} {e a b : Expr} {te ta tb : TE} {m ma mb : En → Option D}
theorem DE.t (h : DE X e m) : DT X e m := ⟨_, h.pe, fun hid O B H σ E d r hm Q q => h.si hid O B H σ E d r hm Q fun v H' e x => q v H' e (.inl x)⟩
theorem DF.toE {mf : En → Option (List D)} (h : DF X e mf) : DE X e (mList mf) := ⟨_, h.pe, fun hid O B H σ E d r hm Q q => by
  obtain ⟨ds, h1, rfl⟩ := map_some hm
  exact h.si hid O B H σ E ds r h1 Q fun p xs H' hp ex hx hr => q _ H' ex (.lst (vis_new (r.fresh hp) hx) (hr.mono (rem_sub fun a z => .inl z) ds))⟩
theorem DF.t {mf : En → Option (List D)} (h : DF X e mf) : DT X e (mList mf) := h.toE.t

/-! ### names, constants -/
theorem dt_var (i : Nat) {x : Str} {pos : Pos} (hN : X.N[i]? = some x := by rfl) (hv : Vis X.env.scope x := by first | exact Or.inl rfl | exact Or.inr (Or.inl rfl) | exact Or.inr (Or.inr rfl)) (hd : (x == ("__debug__" : Str)) = false := by decide)
    (hcd : (x == ("__classdict__" : Str)) = false := by decide) : DT X (.Name x pos) (mVarT i) := ⟨_, pe_var hN hv hd hcd, fun hid O B H σ E d r hm Q q => by
  unfold mVarT at hm
  split at hm
  · rename_i d' h
    cases hm
    obtain ⟨v, h1, h2⟩ := r.fz i d h
    exact ⟨v, h1, q v H (Ex.refl H) (.inl h2)⟩
  · rename_i ds h
    cases hm
    obtain ⟨p, xs, h1, h2, h3, h4⟩ := r.ow i ds h
    exact ⟨.ref p, h1, q _ H (Ex.refl H) (.inr ⟨p, xs, rfl, h2, h3, h4⟩)⟩
  · rename_i t h
    obtain ⟨θ, ω, N⟩ := r.nod
    obtain ⟨v, h1, h2⟩ := N.rt i t h
    exact ⟨v, h1, q v H (Ex.refl H) (N.tv h2 hm)⟩
  · cases hm⟩
theorem de_var (i : Nat) {x : Str} {pos : Pos} (hN : X.N[i]? = some x := by rfl) (hv : Vis X.env.scope x := by first | exact Or.inl rfl | exact Or.inr (Or.inl rfl) | exact Or.inr (Or.inr rfl)) (hd : (x == ("__debug__" : Str)) = false := by decide)
    (hcd : (x == ("__classdict__" : Str)) = false := by decide) : DE X (.Name x pos) (mVar i) := ⟨_, pe_var hN hv hd hcd, fun hid O B H σ E d r hm Q q => by
  unfold mVar at hm
  split at hm
  · rename_i d' h
    cases hm
    obtain ⟨v, h1, h2⟩ := r.fz i d h
    exact ⟨v, h1, q v H (Ex.refl H) h2⟩
  · rename_i t h
    obtain ⟨θ, ω, N⟩ := r.nod
    obtain ⟨v, h1, h2⟩ := N.rt i t h
    exact ⟨v, h1, q v H (Ex.refl H) (closed_ok t h2 hm)⟩
  · cases hm⟩
theorem se_c {K : PySem.W.Frag} {v : V} {d : D} (h : ∀ H, Rp K H v d) : SE K (tC v) (mC d) := fun hid O B H σ E d' r hm Q q => by
  cases hm
  exact q v H (Ex.refl H) (h _)
theorem de_int {i j pos} : DE X (.Constant (.int i) j pos) (mC (.int i)) := ⟨_, pe_int, se_c fun _ => .int i⟩
theorem de_bl {b j pos} : DE X (.Constant (.bool b) j pos) (mC (.bl b)) := ⟨_, pe_bl, se_c fun _ => .bl b⟩
theorem de_non {j pos} : DE X (.Constant .none j pos) (mC .non) := ⟨_, pe_non, se_c fun _ => .non⟩
theorem de_str {x j pos} : DE X (.Constant (.str x) j pos) (mC (.str x)) := ⟨_, pe_str, se_c fun _ => .str x⟩

/-! ### two-place operations -/
theorem st_bin {K : PySem.W.Frag} {r : R2} {f : D → D → Option D} (o : OD K r f) (ha : ST K ta ma) (hb : ST K tb mb) : SE K (tOp r ta tb) (mBin f ma mb) := fun hid O B H σ E d re hm Q q => by
  obtain ⟨x, h1, hm⟩ := bind_some hm
  obtain ⟨y, h2, hm⟩ := bind_some hm
  refine ha hid O B H σ E x re h1 _ fun v H1 e1 r1 => ?_
  refine hb hid O B H1 σ E y (re.grow e1) h2 _ fun u H2 e2 r2 => ?_
  exact o hid O H2 v u x y d (al_of (re.grow (e1.trans e2))) (r1.mono e2) r2 hm Q fun w H3 e3 r3 => q w H3 ((e1.trans e2).trans e3) r3
theorem de_op {op : Operator} {r : R2} {f : D → D → Option D} {pos : Pos} (ho : OpR X (binaryOp op) r) (o : OD X.K r f) (ha : DT X a ma) (hb : DT X b mb) : DE X (.BinOp a op b pos) (mBin f ma mb) :=
  ⟨_, pe_op ho ha.pe hb.pe, st_bin o ha.si hb.si⟩
theorem OD.or {K : PySem.W.Frag} {r r' : R2} {f g h : D → D → Option D} (o : OD K r f) (o' : OD K r' g) (c : ∀ a b d, h a b = some d → f a b = some d ∨ g a b = some d) : OD K (fun x y H Q => r x y H Q ∨ r' x y H Q) h := fun hid O H x y a b d al ra rb hm Q q => by
  rcases c a b d hm with z | z
  · exact .inl (o hid O H x y a b d al ra rb z Q q)
  · exact .inr (o' hid O H x y a b d al ra rb z Q q)
@[simp] def intOp (g : Int → Int → D) : D → D → Option D
  | .int i, .int j => some (g i j)
  | _, _ => none
@[simp] def intOpC (c : Int → Int → Bool) (g : Int → Int → D) : D → D → Option D
  | .int i, .int j => if c i j = true then some (g i j) else none
  | _, _ => none
theorem intOp_some {g : Int → Int → D} {a b d : D} (h : intOp g a b = some d) : ∃ i j, a = .int i ∧ b = .int j ∧ g i j = d := by
  unfold intOp at h
  split at h
  · exact ⟨_, _, rfl, rfl, Option.some.inj h⟩
  · cases h
theorem intOpC_some {c : Int → Int → Bool} {g : Int → Int → D} {a b d : D} (h : intOpC c g a b = some d) : ∃ i j, a = .int i ∧ b = .int j ∧ c i j = true ∧ g i j = d := by
  unfold intOpC at h
  split at h
  · obtain ⟨h1, h2⟩ := ite_some h
    exact ⟨_, _, rfl, rfl, h1, h2⟩
  · cases h
theorem od_I0 {K : PySem.W.Frag} {g : Int → Int → V} {f : Int → Int → D} (h : ∀ i j H, Rp K H (g i j) (f i j)) : OD K (rI0 g) (intOp f) := fun hid O H x y a b d al ra rb hm Q q => by
  obtain ⟨i, j, rfl, rfl, rfl⟩ := intOp_some hm
  exact ⟨i, j, ra.int, rb.int, q _ H (Ex.refl H) (h i j _)⟩
theorem od_I {K : PySem.W.Frag} {C : Int → Int → Prop} {c : Int → Int → Bool} {g : Int → Int → V} {f : Int → Int → D} (hc : ∀ i j, c i j = true → C i j) (h : ∀ i j H, Rp K H (g i j) (f i j)) : OD K (rI C g) (intOpC c f) := fun hid O H x y a b d al ra rb hm Q q => by
  obtain ⟨i, j, rfl, rfl, z, rfl⟩ := intOpC_some hm
  exact ⟨i, j, ra.int, rb.int, hc i j z, q _ H (Ex.refl H) (h i j _)⟩
@[simp] def addD : D → D → Option D
  | .int i, .int j => some (.int (i + j))
  | .str a, .str b => if a.length + b.length ≤ 100000 then some (.str (a ++ b)) else none
  | .lst a, .lst b => if a.length + b.length ≤ 100000 then some (.lst (a ++ b)) else none
  | .tup a, .tup b => if a.length + b.length ≤ 100000 then some (.tup (a ++ b)) else none
  | _, _ => none
@[simp] def catD : D → D → Option (List D)
  | .lst a, .lst b => if a.length + b.length ≤ 100000 then some (a ++ b) else none
  | _, _ => none
theorem catD_some {a b : D} {ds : List D} (h : catD a b = some ds) : ∃ x y, a = .lst x ∧ b = .lst y ∧ x.length + y.length ≤ 100000 ∧ x ++ y = ds := by
  unfold catD at h
  split at h
  · obtain ⟨h1, h2⟩ := ite_some h
    exact ⟨_, _, rfl, rfl, h1, h2⟩
  · cases h
theorem size_le {n : Nat} (h : n ≤ 100000) : n ≤ sizeLine := Nat.le_trans h (by decide)
theorem size_lt {n : Nat} (h : n < 100000) : n < sizeLine := Nat.lt_of_lt_of_le h (by decide)
abbrev rAddS : R2 := fun x y H Q => ∃ i j, x = .str i ∧ y = .str j ∧ i.length + j.length ≤ sizeLine ∧ Q (.str (i ++ j)) H
abbrev rAddAll (K : PySem.W.Frag) : R2 := fun x y H Q => rI0 (fun i j => .int (i + j)) x y H Q ∨ (rAddS x y H Q ∨ (rCat x y H Q ∨ rCatA K x y H Q))
theorem op_addAll : OpR X (binaryOp .Add) (rAddAll X.K) := OpR.or op_add (OpR.or op_add_str (OpR.or op_cat op_catA))
theorem od_add {K : PySem.W.Frag} : OD K (rAddAll K) addD := fun hid O H x y a b d al ra rb hm Q q => by
  unfold addD at hm
  split at hm
  · cases hm
    exact .inl ⟨_, _, ra.int, rb.int, q _ H (Ex.refl H) (.int _)⟩
  · obtain ⟨h1, rfl⟩ := ite_some hm
    exact .inr (.inl ⟨_, _, ra.str, rb.str, size_le h1, q _ H (Ex.refl H) (.str _)⟩)
  · obtain ⟨h1, rfl⟩ := ite_some hm
    obtain ⟨p, xs, rfl, p1, p2⟩ := ra.lst
    obtain ⟨p', ys, rfl, p1', p2'⟩ := rb.lst
    refine .inr (.inr (.inl ⟨p, p', xs, ys, rfl, rfl, p1, p1', by rw [p2.length, p2'.length]; exact size_le h1, fun l hl => ?_⟩))
    have ex : Ex H (upd H l (.lst (xs ++ ys))) := Ex.new hl
    exact q _ _ ex (.lst (vis_new (al l hl) upd_same) ((p2.app p2').mono (rem_mono ex) _))
  · obtain ⟨h1, rfl⟩ := ite_some hm
    obtain ⟨p, xs, rfl, p1, p2⟩ := ra.tup
    obtain ⟨p', ys, rfl, p1', p2'⟩ := rb.tup
    refine .inr (.inr (.inr ⟨p, p', xs, ys, rfl, rfl, Evl.st_of (rem_some.mp p1).2, Evl.st_of (rem_some.mp p1').2, by rw [p2.length, p2'.length]; exact size_le h1, fun z => ?_, fun z1 z2 => ?_, fun z1 z2 l hl => ?_⟩))
    · subst z
      cases p2
      exact q _ H (Ex.refl H) (.tup p1' p2')
    · subst z2
      cases p2'
      rw [List.append_nil] at q
      exact q _ H (Ex.refl H) (.tup p1 p2)
    · have ex : Ex H (upd H l (.tup (xs ++ ys))) := Ex.new hl
      exact q _ _ ex (.tup (vis_new (al l hl) upd_same) ((p2.app p2').mono (rem_mono ex) _))
  · cases hm
theorem de_add {pos : Pos} (ha : DT X a ma) (hb : DT X b mb) : DE X (.BinOp a .Add b pos) (mBin addD ma mb) := de_op op_addAll od_add ha hb
theorem df_add {pos : Pos} (ha : DT X a ma) (hb : DT X b mb) : DF X (.BinOp a .Add b pos) (fun E => (ma E).bind fun x => (mb E).bind fun y => catD x y) := ⟨_, pe_op op_cat ha.pe hb.pe, fun hid O B H σ E ds re hm Q q => by
  obtain ⟨x, h1, hm⟩ := bind_some hm
  obtain ⟨y, h2, hm⟩ := bind_some hm
  obtain ⟨as, bs, rfl, rfl, h3, rfl⟩ := catD_some hm
  refine ha.si hid O B H σ E _ re h1 _ fun v H1 e1 r1 => ?_
  refine hb.si hid O B H1 σ E _ (re.grow e1) h2 _ fun u H2 e2 r2 => ?_
  obtain ⟨p, xs, rfl, p1, p2⟩ := (r1.mono e2).lst
  obtain ⟨p', ys, rfl, p1', p2'⟩ := r2.lst
  refine ⟨p, p', xs, ys, rfl, rfl, p1, p1', by rw [p2.length, p2'.length]; exact size_le h3, fun l hl => ?_⟩
  have ex : Ex H2 (upd H2 l (.lst (xs ++ ys))) := Ex.new hl
  exact q l _ _ (Evl.fresh_back (e1.trans e2) hl) ((e1.trans e2).trans ex) upd_same ((p2.app p2').mono (rem_new hl ex) _)⟩
theorem de_sub {pos : Pos} (ha : DT X a ma) (hb : DT X b mb) : DE X (.BinOp a .Sub b pos) (mBin (intOp fun i j => .int (i - j)) ma mb) := de_op op_sub (od_I0 fun i j _ => .int _) ha hb
def mulOk (i j : Int) : Bool := decide (i.natAbs < 2 ^ 64) || decide (j.natAbs < 2 ^ 64)
theorem mulOk_C {i j : Int} (h : mulOk i j = true) : CMul i j := by
  unfold mulOk at h
  rcases Bool.or_eq_true_iff.mp h with h | h
  · have h := of_decide_eq_true h
    exact .inl (by omega)
  · have h := of_decide_eq_true h
    exact .inr (by omega)
theorem de_mul {pos : Pos} (ha : DT X a ma) (hb : DT X b mb) : DE X (.BinOp a .Mult b pos) (mBin (intOpC mulOk fun i j => .int (i * j)) ma mb) := de_op op_mul (od_I (fun _ _ => mulOk_C) fun i j _ => .int _) ha hb
def divOk (_ j : Int) : Bool := decide (0 < j) && decide (j < 1073741824)
theorem de_fdiv {pos : Pos} (ha : DT X a ma) (hb : DT X b mb) : DE X (.BinOp a .FloorDiv b pos) (mBin (intOpC divOk fun i j => .int (i / j)) ma mb) :=
  de_op op_fdiv (od_I (fun i j h => by
    unfold divOk at h
    obtain ⟨h1, h2⟩ := Bool.and_eq_true_iff.mp h
    exact ⟨of_decide_eq_true h1, of_decide_eq_true h2⟩) fun i j _ => .int _) ha hb
theorem de_mod {pos : Pos} (ha : DT X a ma) (hb : DT X b mb) : DE X (.BinOp a .Mod b pos) (mBin (intOpC (fun _ j => decide (0 < j)) fun i j => .int (i % j)) ma mb) :=
  de_op op_mod (od_I (fun i j h => of_decide_eq_true h) fun i j _ => .int _) ha hb
def powOk (i j : Int) : Bool := decide (0 ≤ j) && decide (j ≤ 1000000) && decide (i.natAbs < 2 ^ 64)
theorem de_pow {pos : Pos} (ha : DT X a ma) (hb : DT X b mb) : DE X (.BinOp a .Pow b pos) (mBin (intOpC powOk fun i j => .int (i ^ j.toNat)) ma mb) :=
  de_op op_pow (od_I (fun i j h => by
    unfold powOk at h
    obtain ⟨h0, h3⟩ := Bool.and_eq_true_iff.mp h
    obtain ⟨h1, h2⟩ := Bool.and_eq_true_iff.mp h0
    exact ⟨of_decide_eq_true h1, of_decide_eq_true h2, of_decide_eq_true h3⟩) fun i j _ => .int _) ha hb
/-- a list times an int -/
@[simp] def repD : D → D → Option (List D)
  | .lst a, .int k => if k ≤ 100000 ∧ a.length * k.toNat ≤ 100000 ∧ -100000 ≤ k then some (List.replicate k.toNat a).flatten else none
  | _, _ => none
theorem repD_some {a b : D} {ds : List D} (h : repD a b = some ds) : ∃ x k, a = .lst x ∧ b = .int k ∧ k ≤ 100000 ∧ x.length * k.toNat ≤ 100000 ∧ -100000 ≤ k ∧ (List.replicate k.toNat x).flatten = ds := by
  unfold repD at h
  split at h
  · obtain ⟨⟨h1, h2, h3⟩, h4⟩ := ite_some h
    exact ⟨_, _, rfl, rfl, h1, h2, h3, h4⟩
  · cases h
theorem df_rep {pos : Pos} (ha : DT X a ma) (hb : DT X b mb) : DF X (.BinOp a .Mult b pos) (fun E => (ma E).bind fun x => (mb E).bind fun y => repD x y) := ⟨_, pe_op op_rep ha.pe hb.pe, fun hid O B H σ E ds re hm Q q => by
  obtain ⟨x, h1, hm⟩ := bind_some hm
  obtain ⟨y, h2, hm⟩ := bind_some hm
  obtain ⟨as, k, rfl, rfl, h3, h4, h5, rfl⟩ := repD_some hm
  · refine ha.si hid O B H σ E _ re h1 _ fun v H1 e1 r1 => ?_
    refine hb.si hid O B H1 σ E _ (re.grow e1) h2 _ fun u H2 e2 r2 => ?_
    obtain ⟨p, xs, rfl, p1, p2⟩ := (r1.mono e2).lst
    obtain rfl := r2.int
    refine ⟨p, k, xs, rfl, rfl, p1, by omega, by omega, by rw [p2.length]; exact size_le h4, fun l hl => ?_⟩
    have ex : Ex H2 (upd H2 l (.lst (List.replicate k.toNat xs).flatten)) := Ex.new hl
    exact q l _ _ (Evl.fresh_back (e1.trans e2) hl) ((e1.trans e2).trans ex) upd_same ((RpL.rep k.toNat p2).mono (rem_new hl ex) _)⟩
/-- - x -/
@[simp] def negD : D → Option D
  | .int i => some (.int (-i))
  | _ => none
theorem de_neg {pos : Pos} (ha : DT X a ma) : DE X (.UnaryOp .USub a pos) (mUn negD ma) := ⟨_, pe_un un_neg ha.pe, fun hid O B H σ E d re hm Q q => by
  obtain ⟨x, h1, hm⟩ := bind_some hm
  unfold negD at hm
  split at hm
  · cases hm
    refine ha.si hid O B H σ E _ re h1 _ fun v H1 e1 r1 => ?_
    exact ⟨_, r1.int, q _ H1 e1 (.int _)⟩
  · cases hm⟩

/-! ### comparisons -/
def bI (g : Int → Int → Bool) : Int → Int → D := fun i j => .bl (g i j)
theorem od_lt {K : PySem.W.Frag} : OD K (rI0 fun i j => .bl (decide (i < j))) (intOp fun i j => .bl (decide (i < j))) := od_I0 fun i j _ => .bl _
theorem od_le {K : PySem.W.Frag} : OD K (rI0 fun i j => .bl (decide (i ≤ j))) (intOp fun i j => .bl (decide (i ≤ j))) := od_I0 fun i j _ => .bl _
theorem od_gt {K : PySem.W.Frag} : OD K (rI0 fun i j => .bl (decide (j < i))) (intOp fun i j => .bl (decide (j < i))) := od_I0 fun i j _ => .bl _
theorem od_ge {K : PySem.W.Frag} : OD K (rI0 fun i j => .bl (decide (j ≤ i))) (intOp fun i j => .bl (decide (j ≤ i))) := od_I0 fun i j _ => .bl _
mutual
def D.py : D → PyData
  | .non => .none
  | .bl b => .bool b
  | .int i => .int i
  | .str x => .str x
  | .lst xs => .list (D.pys xs)
  | .tup xs => .tuple (D.pys xs)
  | .scr ns => .list (ns.map .int)
  | .dct _ _ => .dict []
  | .obj _ _ _ => .dict []
  | .err _ _ => .dict []
def D.pys : List D → List PyData
  | [] => []
  | d :: ds => D.py d :: D.pys ds
end
section
variable {K : PySem.W.Frag} {H : Hp}
theorem dp_ints : ∀ (ns : List Int), DpAll K H (ns.map V.int) (ns.map PyData.int)
  | [] => .nil
  | n :: ns => .cons (.int n) (dp_ints ns)
mutual
theorem Rp.dp : ∀ (d : D) {v : V}, PyData.canLay0 d.py = true → Rp K H v d → Dp K H v d.py
  | .non, _, _, h => by cases h; exact .non
  | .bl b, _, _, h => by cases h; exact .bl b
  | .int i, _, _, h => by cases h; exact .int i
  | .str x, _, _, h => by cases h; exact .str x
  | .lst ds, _, c, h => by
    cases h with
    | lst h1 h2 =>
      rw [D.py] at c ⊢
      exact .lst (.inl (.inl h1)) (RpL.dp ds (by simpa [PyData.canLay0] using c) h2)
  | .tup ds, _, c, h => by
    cases h with
    | tup h1 h2 =>
      rw [D.py] at c ⊢
      exact .tup (Evl.st_of h1) (RpL.dp ds (by simpa [PyData.canLay0] using c) h2)
  | .scr ns, _, _, h => by
    cases h with
    | scr h1 =>
      rw [D.py]
      exact .lst h1 (dp_ints ns)
  | .dct _ _, _, c, _ => by
    rw [D.py] at c
    simp [PyData.canLay0] at c
  | .obj _ _ _, _, c, _ => by
    rw [D.py] at c
    simp [PyData.canLay0] at c
  | .err _ _, _, c, _ => by
    rw [D.py] at c
    simp [PyData.canLay0] at c
theorem RpL.dp : ∀ (ds : List D) {vs : List V}, PyData.canLayAll0 (D.pys ds) = true → RpL K H vs ds → DpAll K H vs (D.pys ds)
  | [], _, _, h => by
    cases h
    rw [D.pys]
    exact .nil
  | d :: ds, _, c, h => by
    cases h with
    | cons h1 h2 =>
      rw [D.pys] at c ⊢
      rw [PyData.canLayAll0, Bool.and_eq_true] at c
      exact .cons (Rp.dp d c.1 h1) (RpL.dp ds c.2 h2)
end
end
@[simp] def eqB : D → D → Option Bool
  | .int i, .int j => some (decide (i = j))
  | .str i, .str j => some (decide (i = j))
  | .bl i, .bl j => some (decide (i = j))
  | .non, .non => some true
  | .non, .int _ => some false
  | .int _, .non => some false
  | a, b => if SeqAt.shaped a.py = true ∧ SeqAt.shaped b.py = true then some (PyData.eqv a.py b.py) else none
@[simp] def eqD (a b : D) : Option D := (eqB a b).map .bl
@[simp] def neD (a b : D) : Option D := (eqB a b).map fun c => .bl (!c)
abbrev rEqAll (K : PySem.W.Frag) : R2 := fun x y H Q => rEq x y H Q ∨ rEqD K x y H Q
abbrev rNeAll (K : PySem.W.Frag) : R2 := fun x y H Q => rNe x y H Q ∨ rNeD K x y H Q
theorem eq_cases {K : PySem.W.Frag} {hid O : AS} {H : Hp} {x y : V} {a b : D} {c : Bool} (ra : Tv K hid O H x a) (rb : Tv K hid O H y b) (h : eqB a b = some c) :
    (scal x y = true ∧ decide (x = y) = c) ∨ (Dp K H x a.py ∧ Dp K H y b.py ∧ SeqAt.shaped a.py = true ∧ SeqAt.shaped b.py = true ∧ PyData.eqv a.py b.py = c) := by
  unfold eqB at h
  split at h
  · obtain rfl := ra.int; obtain rfl := rb.int
    refine .inl ⟨rfl, ?_⟩
    rw [← Option.some.inj h]
    simp only [V.int.injEq]
  · obtain rfl := ra.str; obtain rfl := rb.str
    refine .inl ⟨rfl, ?_⟩
    rw [← Option.some.inj h]
    simp only [V.str.injEq]
  · obtain rfl := ra.bl; obtain rfl := rb.bl
    refine .inl ⟨rfl, ?_⟩
    rw [← Option.some.inj h]
    simp only [V.bl.injEq]
  · obtain rfl := ra.non; obtain rfl := rb.non
    exact .inl ⟨rfl, Option.some.inj h⟩
  · obtain rfl := ra.non; obtain rfl := rb.int
    exact .inl ⟨rfl, Option.some.inj h⟩
  · obtain rfl := ra.int; obtain rfl := rb.non
    exact .inl ⟨rfl, Option.some.inj h⟩
  · obtain ⟨⟨h1, h2⟩, h3⟩ := ite_some h
    exact .inr ⟨Rp.dp _ (SeqAt.canLay_of_shaped h1) ra.full, Rp.dp _ (SeqAt.canLay_of_shaped h2) rb.full, h1, h2, h3⟩
theorem od_eq {K : PySem.W.Frag} : OD K (rEqAll K) eqD := fun hid O H x y a b d al ra rb hm Q q => by
  obtain ⟨c, h, rfl⟩ := map_some hm
  rcases eq_cases ra rb h with ⟨h1, h2⟩ | ⟨h1, h2, h3, h4, h5⟩
  · refine .inl ⟨h1, ?_⟩
    rw [h2]
    exact q _ H (Ex.refl H) (.bl c)
  · refine .inr ⟨_, _, h1, h2, h3, h4, ?_⟩
    rw [h5]
    exact q _ H (Ex.refl H) (.bl c)
theorem od_ne {K : PySem.W.Frag} : OD K (rNeAll K) neD := fun hid O H x y a b d al ra rb hm Q q => by
  obtain ⟨c, h, rfl⟩ := map_some hm
  rcases eq_cases ra rb h with ⟨h1, h2⟩ | ⟨h1, h2, h3, h4, h5⟩
  · refine .inl ⟨h1, ?_⟩
    rw [h2]
    exact q _ H (Ex.refl H) (.bl _)
  · refine .inr ⟨_, _, h1, h2, h3, h4, ?_⟩
    rw [h5]
    exact q _ H (Ex.refl H) (.bl _)
theorem op_eqAll {k : Nat} {A : Around} (hr : Room k A) (hA : X.A = A := by rfl) : OpR X (compareOp .Eq) (rEqAll X.K) := OpR.or op_eq (op_eqD (by rw [hA]; exact hr.units))
theorem op_neAll {k : Nat} {A : Around} (hr : Room k A) (hA : X.A = A := by rfl) : OpR X (compareOp .NotEq) (rNeAll X.K) := OpR.or op_ne (op_neD (by rw [hA]; exact hr.units))
theorem de_cmp {op : CmpOp} {r : R2} {f : D → D → Option D} {pos : Pos} (ho : OpR X (compareOp op) r) (o : OD X.K r f) (ha : DT X a ma) (hb : DT X b mb) (hm : behindInMarks op b = false := by first | exact nomark _ | with_unfolding_all rfl) :
    DE X (.Compare a [op] [b] pos) (mBin f ma mb) := ⟨_, pe_cmpR ho ha.pe hb.pe hm, st_bin o ha.si hb.si⟩
@[simp] def blOf : D → Option Bool
  | .bl b => some b
  | _ => none
theorem blOf_some {d : D} {b : Bool} (h : blOf d = some b) : d = .bl b := by
  unfold blOf at h
  split at h
  · cases h; rfl
  · cases h
theorem db_cmp {op : CmpOp} {r : R2} {f : D → D → Option D} {pos : Pos} (ho : OpR X (compareOp op) r) (o : OD X.K r f) (ha : DT X a ma) (hb : DT X b mb) (hm : behindInMarks op b = false := by first | exact nomark _ | with_unfolding_all rfl) :
    DB X (.Compare a [op] [b] pos) (fun E => (mBin f ma mb E).bind blOf) := ⟨_, pt_cmpR ho ha.pe hb.pe hm, fun hid O B H σ E c re hm Q q => by
  obtain ⟨x, h1, hm⟩ := bind_some hm
  cases blOf_some hm
  exact st_bin o ha.si hb.si hid O B H σ E _ re h1 _ fun v H1 e1 r1 => by
    cases r1
    exact ⟨c, rfl, q H1 e1⟩⟩
/-- a op b op c -/
@[simp] def mChain (f g : D → D → Option D) (a b c : En → Option D) : En → Option D := fun E => (a E).bind fun x => (b E).bind fun y => (f x y).bind fun z => match z with
  | .bl true => (c E).bind fun w => g y w
  | .bl false => some (.bl false)
  | _ => none
theorem st_chain {K : PySem.W.Frag} {r r' : R2} {f g : D → D → Option D} {tc : TE} {mc : En → Option D} (o : OD K r f) (o' : OD K r' g) (ha : ST K ta ma) (hb : ST K tb mb) (hc : ST K tc mc) : SE K (tChain r r' ta tb tc) (mChain f g ma mb mc) := fun hid O B H σ E d re hm Q q => by
  obtain ⟨x, h1, hm⟩ := bind_some hm
  obtain ⟨y, h2, hm⟩ := bind_some hm
  obtain ⟨z, h3, hm⟩ := bind_some hm
  refine ha hid O B H σ E x re h1 _ fun v H1 e1 r1 => ?_
  refine hb hid O B H1 σ E y (re.grow e1) h2 _ fun u H2 e2 r2 => ?_
  refine o hid O H2 v u x y z (al_of (re.grow (e1.trans e2))) (r1.mono e2) r2 h3 _ fun w H3 e3 r3 => ?_
  have e123 := (e1.trans e2).trans e3
  split at hm
  · cases r3
    refine ⟨true, rfl, ?_⟩
    rw [if_pos rfl]
    obtain ⟨w', h4, hm⟩ := bind_some hm
    refine hc hid O B H3 σ E w' (re.grow e123) h4 _ fun u4 H4 e4 r4 => ?_
    exact o' hid O H4 u u4 y w' d (al_of (re.grow (e123.trans e4))) ((r2.mono e3).mono e4) r4 hm Q fun w5 H5 e5 r5 => q w5 H5 ((e123.trans e4).trans e5) r5
  · cases r3
    cases hm
    refine ⟨false, rfl, ?_⟩
    rw [if_neg Bool.false_ne_true]
    exact q _ H3 e123 (.bl false)
  · cases hm
theorem de_chain {op op' : CmpOp} {r r' : R2} {f g : D → D → Option D} {c : Expr} {mc : En → Option D} {pos : Pos} (ho : OpR X (compareOp op) r) (o : OD X.K r f) (ho' : OpR X (compareOp op') r') (o' : OD X.K r' g) (ha : DT X a ma) (hb : DT X b mb) (hc : DT X c mc)
    (hm : lastMarks [op, op'] [b, c] = false := by with_unfolding_all rfl) : DE X (.Compare a [op, op'] [b, c] pos) (mChain f g ma mb mc) := ⟨_, pe_chain ho ho' ha.pe hb.pe hc.pe hm, st_chain o o' ha.si hb.si hc.si⟩
theorem db_chain {op op' : CmpOp} {r r' : R2} {f g : D → D → Option D} {c : Expr} {mc : En → Option D} {pos : Pos} (ho : OpR X (compareOp op) r) (o : OD X.K r f) (ho' : OpR X (compareOp op') r') (o' : OD X.K r' g) (ha : DT X a ma) (hb : DT X b mb) (hc : DT X c mc)
    (hm : lastMarks [op, op'] [b, c] = false := by with_unfolding_all rfl) : DB X (.Compare a [op, op'] [b, c] pos) (fun E => (mChain f g ma mb mc E).bind blOf) := ⟨_, pt_chain ho ho' ha.pe hb.pe hc.pe hm, fun hid O B H σ E c re hm Q q => by
  obtain ⟨x, h1, hm⟩ := bind_some hm
  cases blOf_some hm
  exact st_chain o o' ha.si hb.si hc.si hid O B H σ E _ re h1 _ fun v H1 e1 r1 => by
    cases r1
    exact ⟨c, rfl, q H1 e1⟩⟩
/-- is None, is not None -/
theorem isN_ok {K : PySem.W.Frag} {hid O : AS} {H : Hp} {v : V} {d : D} (h : Tv K hid O H v d) : decide (v = .non) = isN d := by
  rcases h with h | h
  · cases h <;> rfl
  · obtain ⟨p, rfl, _, h⟩ := h.ref
    cases d <;> first | rfl | exact h.elim
theorem de_isN {j pos' pos} (ha : DT X a ma) : DE X (.Compare a [.Is] [.Constant .none j pos'] pos) (mUn (fun d => some (.bl (isN d))) ma) := ⟨_, pe_cmp (pc_isN ha.pe), fun hid O B H σ E d re hm Q q => by
  obtain ⟨x, h1, hm⟩ := bind_some hm
  cases hm
  refine ha.si hid O B H σ E x re h1 _ fun v H1 e1 r1 => ?_
  rw [isN_ok r1]
  exact q _ H1 e1 (.bl _)⟩
theorem de_notN {j pos' pos} (ha : DT X a ma) : DE X (.Compare a [.IsNot] [.Constant .none j pos'] pos) (mUn (fun d => some (.bl (!isN d))) ma) := ⟨_, pe_cmp (pc_notN ha.pe), fun hid O B H σ E d re hm Q q => by
  obtain ⟨x, h1, hm⟩ := bind_some hm
  cases hm
  refine ha.si hid O B H σ E x re h1 _ fun v H1 e1 r1 => ?_
  rw [isN_ok r1]
  exact q _ H1 e1 (.bl _)⟩
theorem db_isN {j pos' pos} (ha : DT X a ma) : DB X (.Compare a [.Is] [.Constant .none j pos'] pos) (fun E => (ma E).map isN) := ⟨_, pt_cmp (pc_isN ha.pe), fun hid O B H σ E d re hm Q q => by
  obtain ⟨x, h1, rfl⟩ := map_some hm
  refine ha.si hid O B H σ E x re h1 _ fun v H1 e1 r1 => ?_
  rw [isN_ok r1]
  exact ⟨_, rfl, q H1 e1⟩⟩
theorem db_notN {j pos' pos} (ha : DT X a ma) : DB X (.Compare a [.IsNot] [.Constant .none j pos'] pos) (fun E => (ma E).map fun d => !isN d) := ⟨_, pt_cmp (pc_notN ha.pe), fun hid O B H σ E d re hm Q q => by
  obtain ⟨x, h1, rfl⟩ := map_some hm
  refine ha.si hid O B H σ E x re h1 _ fun v H1 e1 r1 => ?_
  rw [isN_ok r1]
  exact ⟨_, rfl, q H1 e1⟩⟩

/-! ### truth -/
@[simp] def truD : D → Option Bool
  | .non => some false
  | .bl b => some b
  | .int i => some (i != 0)
  | .str x => if x.length ≤ 100000 then some ((x.length : Int) != 0) else none
  | .lst ds => some (!ds.isEmpty)
  | .tup ds => some (!ds.isEmpty)
  | .scr ns => some (!ns.isEmpty)
  | _ => none
theorem isEmpty_rp {K : PySem.W.Frag} {H : Hp} {vs : List V} {ds : List D} (h : RpL K H vs ds) : (!vs.isEmpty) = !ds.isEmpty := by
  cases h <;> rfl
theorem truD_ok {K : PySem.W.Frag} {hid O : AS} {H : Hp} {v : V} {d : D} {b : Bool} (h : Tv K hid O H v d) (hb : truD d = some b) : TruV K v H b := by
  cases d with
  | non => obtain rfl := h.non; exact (Option.some.inj hb).symm
  | bl c => obtain rfl := h.bl; exact (Option.some.inj hb).symm
  | int i => obtain rfl := h.int; exact (Option.some.inj hb).symm
  | str x =>
    obtain rfl := h.str
    unfold truD at hb
    obtain ⟨h1, h2⟩ := ite_some hb
    exact ⟨size_le h1, h2.symm⟩
  | lst ds =>
    obtain ⟨p, xs, rfl, h1, h2⟩ := h.lst
    exact .inl ⟨xs, .inl (.inl h1), by rw [isEmpty_rp h2]; exact (Option.some.inj hb).symm⟩
  | tup ds =>
    obtain ⟨p, xs, rfl, h1, h2⟩ := h.tup
    exact .inr (.inl ⟨xs, Evl.st_of (rem_some.mp h1).2, by rw [isEmpty_rp h2]; exact (Option.some.inj hb).symm⟩)
  | scr ns =>
    obtain ⟨p, rfl, h1⟩ := h.scr
    refine .inl ⟨_, h1, ?_⟩
    rw [← Option.some.inj hb]
    cases ns <;> rfl
  | dct _ _ => cases hb
  | obj _ _ _ => cases hb
  | err _ _ => cases hb
/-- any expression whose test is its value's truth -/
theorem db_tru (ha : DT X a ma) (he : ∀ whole, isTrue a X.env whole = (do let v ← whole; standAt a.pos; holding [v] (truthy v)) := by intro _; rfl) : DB X a (fun E => (ma E).bind truD) := ⟨_, pt_truth ha.pe he, fun hid O B H σ E b re hm Q q => by
  obtain ⟨x, h1, hm⟩ := bind_some hm
  exact ha.si hid O B H σ E x re h1 _ fun v H1 e1 r1 => ⟨b, truD_ok r1 hm, q H1 e1⟩⟩
@[simp] def mNot (a : En → Option Bool) : En → Option Bool := fun E => (a E).map (!·)
@[simp] def mAnd (a b : En → Option Bool) : En → Option Bool := fun E => (a E).bind fun x => if x = true then b E else some false
@[simp] def mOr (a b : En → Option Bool) : En → Option Bool := fun E => (a E).bind fun x => if x = true then some true else b E
theorem db_not {m : En → Option Bool} {pos : Pos} (ha : DB X a m) : DB X (.UnaryOp .Not a pos) (mNot m) := ⟨_, pt_not ha.pt, fun hid O B H σ E b re hm Q q => by
  obtain ⟨x, h1, rfl⟩ := map_some hm
  exact ha.si hid O B H σ E x re h1 _ fun H1 e1 => q H1 e1⟩
theorem dw_and1 {m : En → Option Bool} {pos : Pos} (ha : DB X a m) : DW X (.BoolOp .And [a] pos) m := ⟨_, pw_and1 ha.pt, ha.si⟩
theorem dw_or1 {m : En → Option Bool} {pos : Pos} (ha : DB X a m) : DW X (.BoolOp .Or [a] pos) m := ⟨_, pw_or1 ha.pt, ha.si⟩
theorem dw_and {m n : En → Option Bool} {pos : Pos} {rest : List Expr} (ha : DB X a m) (hb : DW X (.BoolOp .And (b :: rest) pos) n) : DW X (.BoolOp .And (a :: b :: rest) pos) (mAnd m n) := ⟨_, pw_and ha.pt hb.pw, fun hid O B H σ E c re hm Q q => by
  obtain ⟨x, h1, hm⟩ := bind_some hm
  refine ha.si hid O B H σ E x re h1 _ fun H1 e1 => ?_
  cases x with
  | true =>
    rw [if_pos rfl] at hm ⊢
    exact hb.si hid O B H1 σ E c (re.grow e1) hm Q fun H2 e2 => q H2 (e1.trans e2)
  | false =>
    rw [if_neg Bool.false_ne_true] at hm ⊢
    cases hm
    exact q H1 e1⟩
theorem dw_or {m n : En → Option Bool} {pos : Pos} {rest : List Expr} (ha : DB X a m) (hb : DW X (.BoolOp .Or (b :: rest) pos) n) : DW X (.BoolOp .Or (a :: b :: rest) pos) (mOr m n) := ⟨_, pw_or ha.pt hb.pw, fun hid O B H σ E c re hm Q q => by
  obtain ⟨x, h1, hm⟩ := bind_some hm
  refine ha.si hid O B H σ E x re h1 _ fun H1 e1 => ?_
  cases x with
  | true =>
    rw [if_pos rfl] at hm ⊢
    cases hm
    exact q H1 e1
  | false =>
    rw [if_neg Bool.false_ne_true] at hm ⊢
    exact hb.si hid O B H1 σ E c (re.grow e1) hm Q fun H2 e2 => q H2 (e1.trans e2)⟩
theorem DW.toB {m : En → Option Bool} (h : DW X e m) : DB X e m := ⟨_, h.pw.pt, h.si⟩
/-- and, or, not as values -/
@[simp] def mAndV (a b : En → Option D) : En → Option D := fun E => (a E).bind fun x => (truD x).bind fun k => if k = true then b E else some x
@[simp] def mOrV (a b : En → Option D) : En → Option D := fun E => (a E).bind fun x => (truD x).bind fun k => if k = true then some x else b E
theorem de_one {op} {pos : Pos} (h : DE X a ma) : DE X (.BoolOp op [a] pos) ma := ⟨_, pe_one h.pe, h.si⟩
theorem de_and {pos : Pos} {rest : List Expr} (ha : DE X a ma) (hb : DE X (.BoolOp .And (b :: rest) pos) mb) : DE X (.BoolOp .And (a :: b :: rest) pos) (mAndV ma mb) := ⟨_, pe_andT ha.pe hb.pe, fun hid O B H σ E d re hm Q q => by
  obtain ⟨x, h1, hm⟩ := bind_some hm
  obtain ⟨k, h2, hm⟩ := bind_some hm
  refine ha.si hid O B H σ E x re h1 _ fun v H1 e1 r1 => ⟨k, truD_ok (.inl r1) h2, ?_⟩
  cases k with
  | true =>
    rw [if_pos rfl] at hm ⊢
    exact hb.si hid O B H1 σ E d (re.grow e1) hm Q fun u H2 e2 r2 => q u H2 (e1.trans e2) r2
  | false =>
    rw [if_neg Bool.false_ne_true] at hm ⊢
    cases hm
    exact q v H1 e1 r1⟩
theorem de_or {pos : Pos} {rest : List Expr} (ha : DE X a ma) (hb : DE X (.BoolOp .Or (b :: rest) pos) mb) : DE X (.BoolOp .Or (a :: b :: rest) pos) (mOrV ma mb) := ⟨_, pe_orT ha.pe hb.pe, fun hid O B H σ E d re hm Q q => by
  obtain ⟨x, h1, hm⟩ := bind_some hm
  obtain ⟨k, h2, hm⟩ := bind_some hm
  refine ha.si hid O B H σ E x re h1 _ fun v H1 e1 r1 => ⟨k, truD_ok (.inl r1) h2, ?_⟩
  cases k with
  | true =>
    rw [if_pos rfl] at hm ⊢
    cases hm
    exact q v H1 e1 r1
  | false =>
    rw [if_neg Bool.false_ne_true] at hm ⊢
    exact hb.si hid O B H1 σ E d (re.grow e1) hm Q fun u H2 e2 r2 => q u H2 (e1.trans e2) r2⟩
theorem de_not {pos : Pos} (ha : DT X a ma) : DE X (.UnaryOp .Not a pos) (mUn (fun d => (truD d).map fun k => .bl (!k)) ma) := ⟨_, pe_notT ha.pe, fun hid O B H σ E d re hm Q q => by
  obtain ⟨x, h1, hm⟩ := bind_some hm
  obtain ⟨k, h2, rfl⟩ := map_some hm
  exact ha.si hid O B H σ E x re h1 _ fun v H1 e1 r1 => ⟨k, truD_ok r1 h2, q _ H1 e1 (.bl _)⟩⟩
@[simp] def mIf (c : En → Option Bool) (a b : En → Option D) : En → Option D := fun E => (c E).bind fun k => if k = true then a E else b E
theorem de_if {c : Expr} {mc : En → Option Bool} {pos : Pos} (hc : DB X c mc) (ha : DE X a ma) (hb : DE X b mb) : DE X (.IfExp c a b pos) (mIf mc ma mb) := ⟨_, pe_ifExp hc.pt ha.pe hb.pe, fun hid O B H σ E d re hm Q q => by
  obtain ⟨k, h1, hm⟩ := bind_some hm
  refine hc.si hid O B H σ E k re h1 _ fun H1 e1 => ?_
  cases k with
  | true =>
    rw [if_pos rfl] at hm ⊢
    exact ha.si hid O B H1 σ E d (re.grow e1) hm Q fun u H2 e2 r2 => q u H2 (e1.trans e2) r2
  | false =>
    rw [if_neg Bool.false_ne_true] at hm ⊢
    exact hb.si hid O B H1 σ E d (re.grow e1) hm Q fun u H2 e2 r2 => q u H2 (e1.trans e2) r2⟩

/-! ### arguments, displays -/
theorem da_nil : DA X [] mNil := ⟨_, pa_nil, fun hid O B H σ E ds re hm Q q => by
  cases hm
  exact q [] H (Ex.refl H) .nil⟩
theorem da_cons {es : List Expr} {m : En → Option (List D)} (ha : DE X a ma) (hr : DA X es m) (hs : starEach (a :: es) X.env = (false, eval a X.env) :: starEach es X.env := by rfl) : DA X (a :: es) (mCons ma m) := ⟨_, pa_cons ha.pe hr.pa hs, fun hid O B H σ E ds re hm Q q => by
  obtain ⟨x, h1, hm⟩ := bind_some hm
  obtain ⟨xs, h2, rfl⟩ := map_some hm
  refine ha.si hid O B H σ E x re h1 _ fun v H1 e1 r1 => ?_
  exact hr.si hid O B H1 σ E xs (re.grow e1) h2 _ fun vs H2 e2 r2 => q _ H2 (e1.trans e2) (.cons (r1.mono (rem_mono e2) _) r2)⟩
theorem dat_nil : DAT X [] mNil := ⟨_, pa_nil, fun hid O B H σ E ds re hm Q q => by
  cases hm
  exact q [] H (Ex.refl H) .nil⟩
theorem dat_cons {es : List Expr} {m : En → Option (List D)} (ha : DT X a ma) (hr : DAT X es m) (hs : starEach (a :: es) X.env = (false, eval a X.env) :: starEach es X.env := by rfl) : DAT X (a :: es) (mCons ma m) := ⟨_, pa_cons ha.pe hr.pa hs, fun hid O B H σ E ds re hm Q q => by
  obtain ⟨x, h1, hm⟩ := bind_some hm
  obtain ⟨xs, h2, rfl⟩ := map_some hm
  refine ha.si hid O B H σ E x re h1 _ fun v H1 e1 r1 => ?_
  exact hr.si hid O B H1 σ E xs (re.grow e1) h2 _ fun vs H2 e2 r2 => q _ H2 (e1.trans e2) (.cons (r1.full.mono e2 _) r2)⟩
theorem de_tup {es : List Expr} {x1} {pos : Pos} {m : En → Option (List D)} (h : DA X es m) : DE X (.Tuple es x1 pos) (mTup m) := ⟨_, pe_tup h.pa, fun hid O B H σ E d re hm Q q => by
  obtain ⟨ds, h1, hm⟩ := bind_some hm
  obtain ⟨h2, rfl⟩ := ite_some hm
  refine h.si hid O B H σ E ds re h1 _ fun vs H1 e1 r1 => ⟨by rw [r1.length]; exact size_le h2, fun p hp => ?_⟩
  have ex : Ex H1 (upd H1 p (.tup vs)) := Ex.new hp
  exact q _ _ (e1.trans ex) (.tup (vis_new ((re.grow e1).fresh hp) upd_same) (r1.mono (rem_mono ex) _))⟩
theorem df_lst {es : List Expr} {pos : Pos} {m : En → Option (List D)} (h : DA X es m) : DF X (.List es pos) (mLst m) := ⟨_, pe_lst h.pa, fun hid O B H σ E ds' re hm Q q => by
  obtain ⟨ds, h1, hm⟩ := bind_some hm
  obtain ⟨h2, rfl⟩ := ite_some hm
  refine h.si hid O B H σ E ds re h1 _ fun vs H1 e1 r1 => ⟨by rw [r1.length]; exact size_le h2, fun p hp => ?_⟩
  have ex : Ex H1 (upd H1 p (.lst vs)) := Ex.new hp
  exact q p vs _ (Evl.fresh_back e1 hp) (e1.trans ex) upd_same (r1.mono (rem_new hp ex) _)⟩

/-! ### subscripts, slices -/
@[simp] def ixD : D → D → Option D
  | .lst ds, .int i => atI ds i
  | .tup ds, .int i => atI ds i
  | .scr ns, .int i => (atI ns i).map .int
  | .str z, .int i => if z.length ≤ 100000 then (atI z.cps.toList i).map fun c => .str ⟨#[c]⟩ else none
  | _, _ => none
theorem atI_rp {K : PySem.W.Frag} {H : Hp} {vs : List V} {ds : List D} {i : Int} {d : D} (h : RpL K H vs ds) (e : atI ds i = some d) : ∃ v, atI vs i = some v ∧ Rp K H v d := by
  unfold atI at e ⊢
  obtain ⟨j, h1, h2⟩ := bind_some e
  obtain ⟨v, h3, h4⟩ := h.get h2
  exact ⟨v, by rw [h.length, h1]; exact h3, h4⟩
theorem atI_map {α β : Type} (f : α → β) (xs : List α) (i : Int) : atI (xs.map f) i = (atI xs i).map f := by
  unfold atI
  rw [List.length_map]
  cases h : ixN xs.length i with
  | none => rfl
  | some j =>
    show (xs.map f)[j]? = (xs[j]?).map f
    rw [List.getElem?_map]
theorem od_ix {K : PySem.W.Frag} : OD K (rIx K) ixD := fun hid O H x y a b d al ra rb hm Q q => by
  unfold ixD at hm
  split at hm
  · obtain ⟨p, xs, rfl, h1, h2⟩ := ra.seq
    obtain ⟨v, h3, h4⟩ := atI_rp h2 hm
    exact .inl ⟨p, xs, _, v, rfl, rb.int, h1, h3, q v H (Ex.refl H) h4⟩
  · obtain ⟨p, xs, rfl, h1, h2⟩ := ra.tup
    obtain ⟨v, h3, h4⟩ := atI_rp h2 hm
    exact .inr (.inl ⟨p, xs, _, v, rfl, rb.int, Evl.st_of (rem_some.mp h1).2, h3, q v H (Ex.refl H) h4⟩)
  · obtain ⟨p, rfl, h1⟩ := ra.scr
    obtain ⟨n, h2, rfl⟩ := map_some hm
    refine .inl ⟨p, _, _, .int n, rfl, rb.int, h1, ?_, q _ H (Ex.refl H) (.int n)⟩
    rw [atI_map, h2]
    rfl
  · rename_i z i
    by_cases h1 : z.length ≤ 100000
    · rw [if_pos h1] at hm
      obtain ⟨c, h3, rfl⟩ := map_some hm
      exact .inr (.inr ⟨_, _, c, ra.str, rb.int, size_le h1, h3, q _ H (Ex.refl H) (.str _)⟩)
    · rw [if_neg h1] at hm
      cases hm
  · cases hm
theorem de_ix {pos : Pos} (ha : DT X a ma) (hb : DT X b mb) (hs : PlainIx b := by exact fun _ _ => rfl) : DE X (.Subscript a b pos) (mBin ixD ma mb) := ⟨_, pe_ix ix_seq ha.pe hb.pe hs, st_bin od_ix ha.si hb.si⟩
theorem do_none : DO X none (fun _ => some none) := ⟨_, po_none, fun hid O B H σ E o re hm Q q => by
  cases hm
  exact q H (Ex.refl H)⟩
@[simp] def inOf : D → Option (Option Int)
  | .int i => some (some i)
  | _ => none
theorem do_some (ha : DT X a ma) : DO X (some a) (fun E => (ma E).bind inOf) := ⟨_, po_some ha.pe, fun hid O B H σ E o re hm Q q => by
  obtain ⟨x, h1, hm⟩ := bind_some hm
  unfold inOf at hm
  split at hm
  · cases hm
    exact ha.si hid O B H σ E _ re h1 _ fun v H1 e1 r1 => ⟨_, r1.int, q H1 e1⟩
  · cases hm⟩
def cutD (ds : List D) (lo hi : Option Int) : List D := (ds.drop (HT.sIx ds.length 0 lo)).take (HT.sIx ds.length ds.length hi - HT.sIx ds.length 0 lo)
theorem cut_rp {K : PySem.W.Frag} {H : Hp} {vs : List V} {ds : List D} (lo hi : Option Int) (h : RpL K H vs ds) : RpL K H (cutV vs lo hi) (cutD ds lo hi) := by
  unfold cutV cutD
  rw [h.length]
  exact (h.drop _).take _
@[simp] def lstOf : D → Option (List D)
  | .lst ds => some ds
  | .scr ns => some (ns.map .int)
  | _ => none
theorem lstOf_some {d : D} {ds : List D} (h : lstOf d = some ds) : d = .lst ds ∨ ∃ ns, d = .scr ns ∧ ds = ns.map .int := by
  unfold lstOf at h
  split at h
  · cases h
    exact .inl rfl
  · cases h
    exact .inr ⟨_, rfl, rfl⟩
  · cases h
/-- a slice of a list -/
theorem df_slice {lo hi : Option Expr} {ml mh : En → Option (Option Int)} {p2 pos : Pos} (ha : DT X a ma) (hl : DO X lo ml) (hh : DO X hi mh) :
    DF X (.Subscript a (.Slice lo hi none p2) pos) (fun E => ((ma E).bind lstOf).bind fun ds => (ml E).bind fun l => (mh E).map fun h => cutD ds l h) := ⟨_, pe_slice sl_list ha.pe hl.po hh.po, fun hid O B H σ E ds re hm Q q => by
  obtain ⟨es, h1, hm⟩ := bind_some hm
  obtain ⟨x, h0, h1⟩ := bind_some h1
  obtain ⟨l, h2, hm⟩ := bind_some hm
  obtain ⟨h, h3, rfl⟩ := map_some hm
  refine ha.si hid O B H σ E x re h0 _ fun v H1 e1 r1 => ?_
  refine hl.si hid O B H1 σ E l (re.grow e1) h2 _ fun H2 e2 => ?_
  refine hh.si hid O B H2 σ E h (re.grow (e1.trans e2)) h3 _ fun H3 e3 => ?_
  have e123 := (e1.trans e2).trans e3
  have r3 := (r1.mono e2).mono e3
  rcases lstOf_some h1 with rfl | ⟨ns, rfl, rfl⟩
  · obtain ⟨p, xs, rfl, p1, p2⟩ := r3.seq
    refine ⟨p, xs, rfl, p1, fun t ht => ?_⟩
    have ex : Ex H3 (upd H3 t (.lst (cutV xs l h))) := Ex.new ht
    exact q t _ _ (Evl.fresh_back e123 ht) (e123.trans ex) upd_same ((cut_rp l h p2).mono (rem_new ht ex) _)
  · obtain ⟨p, rfl, p1⟩ := r3.scr
    refine ⟨p, _, rfl, p1, fun t ht => ?_⟩
    have ex : Ex H3 (upd H3 t (.lst (cutV (ns.map V.int) l h))) := Ex.new ht
    exact q t _ _ (Evl.fresh_back e123 ht) (e123.trans ex) upd_same ((cut_rp l h (RpL.ints _)).mono (rem_new ht ex) _)⟩
/-- xs[::-1] -/
theorem df_rev {k : Nat} {p1 p2 p3 pos : Pos} (ha : DT X a ma) : DF X (.Subscript a (.Slice none none (some (.UnaryOp .USub (.Constant (.int 1) k p1) p2)) p3) pos) (fun E => ((ma E).bind lstOf).map List.reverse) := ⟨_, pe_revL ha.pe, fun hid O B H σ E ds re hm Q q => by
  obtain ⟨es, h1, rfl⟩ := map_some hm
  obtain ⟨x, h0, h1⟩ := bind_some h1
  refine ha.si hid O B H σ E x re h0 _ fun v H1 e1 r1 => ?_
  rcases lstOf_some h1 with rfl | ⟨ns, rfl, rfl⟩
  · obtain ⟨p, xs, rfl, p1, p2⟩ := r1.seq
    refine ⟨p, xs, rfl, p1, fun t ht => ?_⟩
    have ex : Ex H1 (upd H1 t (.lst xs.reverse)) := Ex.new ht
    exact q t _ _ (Evl.fresh_back e1 ht) (e1.trans ex) upd_same (p2.rev.mono (rem_new ht ex) _)
  · obtain ⟨p, rfl, p1⟩ := r1.scr
    refine ⟨p, _, rfl, p1, fun t ht => ?_⟩
    have ex : Ex H1 (upd H1 t (.lst (ns.map V.int).reverse)) := Ex.new ht
    exact q t _ _ (Evl.fresh_back e1 ht) (e1.trans ex) upd_same ((RpL.rev (RpL.ints _)).mono (rem_new ht ex) _)⟩
end
end Sx

set_option Elab.async false
set_option linter.all false
set_option maxRecDepth 100000
set_option maxHeartbeats 1000000
namespace Sx
open PySem PySem.Spec PyProof.Rows L2
open Evl (Ex)

/-! ### more about environments -/
section
variable {K : PySem.W.Frag} {hid O : AS} {B H H' : Hp} {σ : L2.St} {E : En}
theorem RE.rebase (r : RE K hid O B H σ E) : RE K hid O (rem O H) H σ E :=
  ⟨fun a o q => ⟨(rem_some.mp q).2, (rem_some.mp q).1⟩, r.own, fun a z => by
    obtain ⟨o, q, m⟩ := r.hidd a z
    exact ⟨o, rem_some.mpr ⟨(r.base a _ q).2, (r.base a _ q).1⟩, m⟩, r.len, r.fz, r.ow, r.dis, r.nod⟩
theorem RE.back {B' : Hp} (r : RE K hid O B' H σ E) (e : Ex B B') (hd : ∀ a, hid a → IsM B a) : RE K hid O B H σ E :=
  ⟨fun a o q => r.base a o (e a o q), r.own, hd, r.len, r.fz, r.ow, r.dis, r.nod⟩
theorem RE.old (r : RE K hid O B H σ E) : Ex B (rem O H) := fun a o q => rem_some.mpr ⟨(r.base a o q).2, (r.base a o q).1⟩
@[simp] def wipeE (E : En) : List Nat → En
  | [] => E
  | v :: vs => (wipeE E vs).set v .un
theorem RE.wiped (r : RE K hid O B H σ E) : ∀ vs : List Nat, RE K hid O B H (wipe σ vs) (wipeE E vs)
  | [] => r
  | v :: vs => (r.wiped vs).drop v
end
theorem wipe_get (σ : L2.St) (j : Nat) : ∀ vs : List Nat, (wipe σ vs)[j]? = if j ∈ vs ∧ j < σ.length then some none else σ[j]?
  | [] => by simp [wipe]
  | v :: vs => by
    unfold wipe
    by_cases h : v = j
    · subst h
      by_cases hl : v < σ.length
      · rw [List.getElem?_set_self (by rw [wipe_length]; exact hl), if_pos ⟨List.mem_cons_self .., hl⟩]
      · rw [List.getElem?_eq_none (by rw [List.length_set, wipe_length]; omega), if_neg (fun z => hl z.2), List.getElem?_eq_none (by omega)]
    · rw [List.getElem?_set_ne h, wipe_get σ j vs]
      by_cases hj : j ∈ vs
      · by_cases hl : j < σ.length
        · rw [if_pos ⟨hj, hl⟩, if_pos ⟨List.mem_cons_of_mem _ hj, hl⟩]
        · rw [if_neg (fun z => hl z.2), if_neg (fun z => hl z.2)]
      · rw [if_neg (fun z => hj z.1), if_neg (fun z => by
          rcases List.mem_cons.mp z.1 with e | e
          · exact h e.symm
          · exact hj e)]
theorem wipe_set (σ : L2.St) {i : Nat} {x : Option V} {vs : List Nat} (h : i ∈ vs) : wipe (σ.set i x) vs = wipe σ vs := by
  refine List.ext_getElem? fun j => ?_
  rw [wipe_get, wipe_get, List.length_set]
  by_cases hj : j ∈ vs ∧ j < σ.length
  · rw [if_pos hj, if_pos hj]
  · rw [if_neg hj, if_neg hj]
    by_cases e : i = j
    · subst e
      rw [List.getElem?_eq_none (by rw [List.length_set]; exact Nat.le_of_not_lt fun z => hj ⟨h, z⟩), List.getElem?_eq_none (Nat.le_of_not_lt fun z => hj ⟨h, z⟩)]
    · rw [List.getElem?_set_ne e]

/-! ### what is walked -/
section
variable (K : PySem.W.Frag)
def Yd (W : AS) (H2 : Hp) (ds : List D) (Y : Nat → Hp → V → Hp → Prop) : Prop := ∀ (i : Nat) (H1 : Hp) (x : V) (H1' : Hp) (W' : AS) (d : D), Y i H1 x H1' → ds[i]? = some d → Ex (rem W H2) (rem W' H1) → (∀ p, H1 p = none → ¬ W' p) → Ex H1 H1' ∧ Rp K (rem W' H1') x d
def SI (wi : TI) (m : En → Option (List D)) : Prop := ∀ (hid O : AS) (B H : Hp) (σ : L2.St) (E : En) (ds : List D), RE K hid O B H σ E → m E = some ds → ∀ R : It → Hp → Prop,
  (∀ J H2 G Y, Ex H H2 → Walk J ds.length G Y → (∀ H', Ex (rem (orS hid O) H2) H' → G H') → Yd K (orS hid O) H2 ds Y → R J H2) → wi σ H R
def SIT (wi : TI) (m : En → Option (List D)) : Prop := ∀ (hid O : AS) (B H : Hp) (σ : L2.St) (E : En) (ds : List D), RE K hid O B H σ E → m E = some ds → ∀ R : It → Hp → Prop,
  (∀ J H2 G Y, Ex H H2 → Walk J ds.length G Y → (∀ H', Ex H2 H' → G H') → Yd K (orS hid O) H2 ds Y → R J H2) → wi σ H R
end
section
variable (K : PySem.W.Frag)
def tIq (m : En → Option (List D)) : TI := fun σ H R => ∃ (hid O : AS) (B : Hp) (E : En) (ds : List D), RE K hid O B H σ E ∧ m E = some ds ∧
  ∀ J H2 G Y, Ex H H2 → Walk J ds.length G Y → (∀ H', Ex (rem (orS hid O) H2) H' → G H') → Yd K (orS hid O) H2 ds Y → R J H2
def tITq (m : En → Option (List D)) : TI := fun σ H R => ∃ (hid O : AS) (B : Hp) (E : En) (ds : List D), RE K hid O B H σ E ∧ m E = some ds ∧
  ∀ J H2 G Y, Ex H H2 → Walk J ds.length G Y → (∀ H', Ex H2 H' → G H') → Yd K (orS hid O) H2 ds Y → R J H2
end
def DI (X : Cx) (tg e : Expr) (m : En → Option (List D)) : Prop := ∃ wi, PI X tg e wi ∧ SI X.K wi m
def DIT (X : Cx) (tg e : Expr) (m : En → Option (List D)) : Prop := ∃ wi, PI X tg e wi ∧ SIT X.K wi m
theorem DI.pi {X : Cx} {tg e : Expr} {m : En → Option (List D)} (h : DI X tg e m) : PI X tg e (tIq X.K m) := by
  obtain ⟨te, p, s⟩ := h
  exact ⟨fun pins s0 σ H Q I h => p.run pins s0 σ H Q I (by obtain ⟨hid, O, B, E, d, r, hm, q⟩ := h; exact s hid O B H σ E d r hm Q q)⟩
theorem DI.si {X : Cx} {tg e : Expr} {m : En → Option (List D)} (h : DI X tg e m) : SI X.K (tIq X.K m) m := fun hid O B H σ E d r hm Q q => ⟨hid, O, B, E, d, r, hm, q⟩
theorem DIT.pi {X : Cx} {tg e : Expr} {m : En → Option (List D)} (h : DIT X tg e m) : PI X tg e (tITq X.K m) := by
  obtain ⟨te, p, s⟩ := h
  exact ⟨fun pins s0 σ H Q I h => p.run pins s0 σ H Q I (by obtain ⟨hid, O, B, E, d, r, hm, q⟩ := h; exact s hid O B H σ E d r hm Q q)⟩
theorem DIT.si {X : Cx} {tg e : Expr} {m : En → Option (List D)} (h : DIT X tg e m) : SIT X.K (tITq X.K m) m := fun hid O B H σ E d r hm Q q => ⟨hid, O, B, E, d, r, hm, q⟩
theorem Yd.at {K : PySem.W.Frag} {W : AS} {H2 : Hp} {xs : List V} {ds : List D} (h : RpL K (rem W H2) xs ds) : Yd K W H2 ds (YAt xs) := fun i H1 x H1' W' d y hd e _ => by
  obtain ⟨rfl, hx⟩ := y
  obtain ⟨v, h1, h2⟩ := h.get hd
  rw [hx] at h1
  cases h1
  exact ⟨Ex.refl _, h2.mono e d⟩
def rangeD (lo : Int) (n : Nat) : List D := (List.range n).map fun (i : Nat) => D.int (lo + (i : Int))
theorem rangeD_len (lo : Int) (n : Nat) : (rangeD lo n).length = n := by
  unfold rangeD
  rw [List.length_map, List.length_range]
theorem rangeD_get {lo : Int} {n i : Nat} (h : i < n) : (rangeD lo n)[i]? = some (.int (lo + i)) := by
  unfold rangeD
  rw [List.getElem?_map, List.getElem?_range h]
  rfl
theorem Yd.fn {K : PySem.W.Frag} {W : AS} {H2 : Hp} {lo : Int} {n : Nat} : Yd K W H2 (rangeD lo n) (YFn fun i => .int (lo + i)) := fun i H1 x H1' W' d y hd e _ => by
  obtain ⟨rfl, rfl⟩ := y
  have hi : i < n := by
    have := (List.getElem?_eq_some_iff.mp hd).1
    rwa [rangeD_len] at this
  rw [rangeD_get hi] at hd
  cases hd
  exact ⟨Ex.refl _, .int _⟩
section
variable {X : Cx} {tg e : Expr} {te : TE} {m : En → Option D}
theorem DI.t {m : En → Option (List D)} (h : DI X tg e m) : DIT X tg e m := ⟨_, h.pi, fun hid O B H σ E ds r hm R k => h.si hid O B H σ E ds r hm R fun J H2 G Y e w g y => k J H2 G Y e w (fun H' z => g H' (Ex.trans rem_ex z)) y⟩
/-- a list -/
theorem di_list (h : DE X e m) : DI X tg e (fun E => (m E).bind lstOf) := ⟨_, pi_list h.pe, fun hid O B H σ E ds r hm R k => by
  obtain ⟨x, h1, hm⟩ := bind_some hm
  refine h.si hid O B H σ E x r h1 _ fun v H1 e1 r1 => ?_
  rcases lstOf_some hm with rfl | ⟨ns, rfl, rfl⟩
  · cases r1 with
    | @lst a xs _ g1 g2 =>
      refine ⟨a, rfl, ⟨xs, .inl (.inl (rem_some.mp g1).2)⟩, ?_⟩
      have w := walk_list (K := X.K) (a := a) (xs := xs)
      rw [g2.length] at w
      exact k _ H1 _ _ e1 w (fun H' z => .inl (.inl (z a _ g1))) (Yd.at g2)
  · cases r1 with
    | @scr a _ g1 =>
      refine ⟨a, rfl, ⟨_, Evl.ex_l rem_ex g1⟩, ?_⟩
      have w := walk_list (K := X.K) (a := a) (xs := ns.map V.int)
      rw [List.length_map, ← List.length_map (f := D.int)] at w
      exact k _ H1 _ _ e1 w (fun H' z => Evl.ex_l z g1) (Yd.at (RpL.ints ns))⟩
theorem dit_list (h : DT X e m) : DIT X tg e (fun E => (m E).bind lstOf) := ⟨_, pi_list h.pe, fun hid O B H σ E ds r hm R k => by
  obtain ⟨x, h1, hm⟩ := bind_some hm
  refine h.si hid O B H σ E x r h1 _ fun v H1 e1 r1 => ?_
  rcases lstOf_some hm with rfl | ⟨ns, rfl, rfl⟩
  · obtain ⟨a, xs, rfl, g1, g2⟩ := r1.lst
    refine ⟨a, rfl, ⟨xs, .inl (.inl g1)⟩, ?_⟩
    have w := walk_list (K := X.K) (a := a) (xs := xs)
    rw [g2.length] at w
    exact k _ H1 _ _ e1 w (fun H' z => .inl (.inl (z a _ g1))) (Yd.at g2)
  · obtain ⟨a, rfl, g1⟩ := r1.scr
    refine ⟨a, rfl, ⟨_, g1⟩, ?_⟩
    have w := walk_list (K := X.K) (a := a) (xs := ns.map V.int)
    rw [List.length_map, ← List.length_map (f := D.int)] at w
    exact k _ H1 _ _ e1 w (fun H' z => Evl.ex_l z g1) (Yd.at (RpL.ints ns))⟩
@[simp] def tupOf : D → Option (List D)
  | .tup ds => some ds
  | _ => none
/-- a tuple -/
theorem di_tup (h : DE X e m) : DI X tg e (fun E => (m E).bind tupOf) := ⟨_, pi_tup h.pe, fun hid O B H σ E ds r hm R k => by
  obtain ⟨x, h1, hm⟩ := bind_some hm
  refine h.si hid O B H σ E x r h1 _ fun v H1 e1 r1 => ?_
  unfold tupOf at hm
  split at hm
  · cases hm
    cases r1 with
    | @tup a xs _ g1 g2 =>
      refine ⟨a, rfl, ⟨xs, Evl.st_of (rem_some.mp g1).2⟩, ?_⟩
      have w := walk_tup (K := X.K) (a := a) (xs := xs)
      rw [g2.length] at w
      exact k _ H1 _ _ e1 w (fun H' z => Evl.st_of (z _ _ g1)) (Yd.at g2)
  · cases hm⟩
@[simp] def rg1 : D → Option (List D)
  | .int n => if n ≤ 100000 ∧ -100000 ≤ n then some (rangeD 0 n.toNat) else none
  | _ => none
theorem rg1_some {d : D} {ds : List D} (h : rg1 d = some ds) : ∃ n : Int, d = .int n ∧ n ≤ 100000 ∧ -100000 ≤ n ∧ ds = rangeD 0 n.toNat := by
  unfold rg1 at h
  split at h
  · obtain ⟨h1, h2⟩ := ite_some h
    exact ⟨_, rfl, h1.1, h1.2, h2.symm⟩
  · cases h
@[simp] def rg2 : D → D → Option (List D)
  | .int a, .int n => if (n ≤ 100000 ∧ -100000 ≤ n) ∧ (a ≤ 100000 ∧ -100000 ≤ a) then some (rangeD a (n - a).toNat) else none
  | _, _ => none
theorem rg2_some {c d : D} {ds : List D} (h : rg2 c d = some ds) : ∃ a n : Int, c = .int a ∧ d = .int n ∧ (n ≤ 100000 ∧ -100000 ≤ n) ∧ (a ≤ 100000 ∧ -100000 ≤ a) ∧ ds = rangeD a (n - a).toNat := by
  unfold rg2 at h
  split at h
  · obtain ⟨h1, h2⟩ := ite_some h
    exact ⟨_, _, rfl, rfl, h1.1, h1.2, h2.symm⟩
  · cases h
theorem di_range1 {a : Expr} {ma : En → Option D} {p pos : Pos} (hm : X.mg "range" = none) (ha : DT X a ma) (hg : Gl X "range" := by rfl) (hs : starEach [a] X.env = [(false, eval a X.env)] := by rfl) (hs1 : starEach [a] X.env = (false, eval a X.env) :: starEach [] X.env := by rfl) :
    DI X tg (.Call (.Name "range" p) [a] [] pos) (fun E => (ma E).bind rg1) := ⟨_, pi_range1 hg hm (pa_cons ha.pe pa_nil hs1) hs, fun hid O B H σ E ds r hm R k => by
  obtain ⟨x, h1, hm⟩ := bind_some hm
  obtain ⟨n, rfl, b1, b2, rfl⟩ := rg1_some hm
  refine ha.si hid O B H σ E _ r h1 _ fun v H1 e1 r1 => ?_
  obtain rfl := r1.int
  refine ⟨n, rfl, by omega, by omega, ?_⟩
  have w := walk_range (lo := 0) (n := n.toNat)
  rw [← rangeD_len 0 n.toNat] at w
  rw [rangeD_len] at w
  exact k _ H1 _ _ e1 (by rw [rangeD_len]; exact w) (fun _ _ => trivial) Yd.fn⟩
theorem di_range2 {a b : Expr} {ma mb : En → Option D} {p pos : Pos} (hm : X.mg "range" = none) (ha : DT X a ma) (hb : DT X b mb) (hg : Gl X "range" := by rfl) (hs : starEach [a, b] X.env = [(false, eval a X.env), (false, eval b X.env)] := by rfl) (hs2 : starEach [b] X.env = [(false, eval b X.env)] := by rfl)
    (hs1 : starEach [a, b] X.env = (false, eval a X.env) :: starEach [b] X.env := by rfl) (hs3 : starEach [b] X.env = (false, eval b X.env) :: starEach [] X.env := by rfl) :
    DI X tg (.Call (.Name "range" p) [a, b] [] pos) (fun E => (ma E).bind fun x => (mb E).bind fun y => rg2 x y) := ⟨_, pi_range2 hg hm (pa_cons ha.pe (pa_cons hb.pe pa_nil hs3) hs1) hs hs2, fun hid O B H σ E ds r hm R k => by
  obtain ⟨x, h1, hm⟩ := bind_some hm
  obtain ⟨y, h2, hm⟩ := bind_some hm
  obtain ⟨a, n, rfl, rfl, b1, b2, rfl⟩ := rg2_some hm
  refine ha.si hid O B H σ E _ r h1 _ fun v H1 e1 r1 => ?_
  obtain rfl := r1.int
  refine hb.si hid O B H1 σ E _ (r.grow e1) h2 _ fun v H2 e2 r2 => ?_
  obtain rfl := r2.int
  refine ⟨a, n, rfl, by omega, ?_⟩
  exact k _ H2 _ _ (e1.trans e2) (by rw [rangeD_len]; exact walk_range) (fun _ _ => trivial) Yd.fn⟩
end

/-! ### targets -/
section
variable (K : PySem.W.Frag)
def SG (g : TG) (js : List Nat) (m : En → D → Option En) : Prop := ∀ (hid O : AS) (B H : Hp) (σ : L2.St) (E : En) (v : V) (d : D) (E' : En), RE K hid O B H σ E → Rp K (rem (orS hid O) H) v d → m E d = some E' → ∀ Q : L2.St → Hp → Prop,
  (∀ σ', RE K hid O B H σ' E' → (∀ vs : List Nat, (∀ j ∈ js, j ∈ vs) → wipe σ' vs = wipe σ vs) → Q σ' H) → g v σ H Q
def SGs (g : TGs) (js : List Nat) (m : En → List D → Option En) : Prop := ∀ (hid O : AS) (B H : Hp) (σ : L2.St) (E : En) (v : List V) (d : List D) (E' : En), RE K hid O B H σ E → RpL K (rem (orS hid O) H) v d → m E d = some E' → ∀ Q : L2.St → Hp → Prop,
  (∀ σ', RE K hid O B H σ' E' → (∀ vs : List Nat, (∀ j ∈ js, j ∈ vs) → wipe σ' vs = wipe σ vs) → Q σ' H) → g v σ H Q
end
section
variable (K : PySem.W.Frag)
def tGq (js : List Nat) (m : En → D → Option En) : TG := fun v σ H Q => ∃ (hid O : AS) (B : Hp) (E : En) (d : D) (E' : En), RE K hid O B H σ E ∧ Rp K (rem (orS hid O) H) v d ∧ m E d = some E' ∧
  ∀ σ', RE K hid O B H σ' E' → (∀ vs : List Nat, (∀ j ∈ js, j ∈ vs) → wipe σ' vs = wipe σ vs) → Q σ' H
def tGsq (js : List Nat) (m : En → List D → Option En) : TGs := fun v σ H Q => ∃ (hid O : AS) (B : Hp) (E : En) (d : List D) (E' : En), RE K hid O B H σ E ∧ RpL K (rem (orS hid O) H) v d ∧ m E d = some E' ∧
  ∀ σ', RE K hid O B H σ' E' → (∀ vs : List Nat, (∀ j ∈ js, j ∈ vs) → wipe σ' vs = wipe σ vs) → Q σ' H
end
def DG (X : Cx) (tg : Expr) (js : List Nat) (m : En → D → Option En) : Prop := ∃ g, PG X tg g ∧ SG X.K g js m
def DGs (X : Cx) (tg : List Expr) (js : List Nat) (m : En → List D → Option En) : Prop := ∃ g, PGs X tg g ∧ SGs X.K g js m
theorem DG.pg {X : Cx} {tg : Expr} {js : List Nat} {m : En → D → Option En} (h : DG X tg js m) : PG X tg (tGq X.K js m) := by
  obtain ⟨te, p, s⟩ := h
  exact ⟨fun pins s0 σ H v u Q I rv h => p.run pins s0 σ H v u Q I rv (by obtain ⟨hid, O, B, E, d, E', r, r2, hm, q⟩ := h; exact s hid O B H σ E v d E' r r2 hm Q q)⟩
theorem DG.si {X : Cx} {tg : Expr} {js : List Nat} {m : En → D → Option En} (h : DG X tg js m) : SG X.K (tGq X.K js m) js m := fun hid O B H σ E v d E' r r2 hm Q q => ⟨hid, O, B, E, d, E', r, r2, hm, q⟩
theorem DGs.pg {X : Cx} {tg : List Expr} {js : List Nat} {m : En → List D → Option En} (h : DGs X tg js m) : PGs X tg (tGsq X.K js m) := by
  obtain ⟨te, p, s⟩ := h
  exact ⟨fun pins s0 σ H v u Q I rv h => p.run pins s0 σ H v u Q I rv (by obtain ⟨hid, O, B, E, d, E', r, r2, hm, q⟩ := h; exact s hid O B H σ E v d E' r r2 hm Q q)⟩
theorem DGs.si {X : Cx} {tg : List Expr} {js : List Nat} {m : En → List D → Option En} (h : DGs X tg js m) : SGs X.K (tGsq X.K js m) js m := fun hid O B H σ E v d E' r r2 hm Q q => ⟨hid, O, B, E, d, E', r, r2, hm, q⟩
@[simp] def gM (i : Nat) : En → D → Option En := fun E d => some (E.set i (.fz d))
@[simp] def gsNil : En → List D → Option En := fun E ds => match ds with
  | [] => some E
  | _ => none
@[simp] def gsCons (g : En → D → Option En) (h : En → List D → Option En) : En → List D → Option En := fun E ds => match ds with
  | d :: ds => (g E d).bind fun E1 => h E1 ds
  | [] => none
@[simp] def gTupM (n : Nat) (g : En → List D → Option En) : En → D → Option En := fun E d => match d with
  | .tup ds => if ds.length = n then g E ds else none
  | _ => none
section
variable {X : Cx} {pos : Pos}
theorem dg_name (i : Nat) {x : Str} (hN : X.N.Nodup) (hi : X.N[i]? = some x := by rfl) (hx : Loc X.env.scope x := by first | exact Or.inl rfl | exact Or.inr rfl) (hf : X.fn x = true ∨ X.env.scope.names.lookup x = some .local := by first | exact .inl rfl | exact .inr rfl) : DG X (.Name x pos) [i] (gM i) :=
  ⟨_, pg_name hN hi hx hf, fun hid O B H σ E v d E' r rv hm Q k => by
    cases hm
    exact k _ (r.put i rv) fun vs h => wipe_set σ (h i (List.mem_cons_self ..))⟩
theorem dgs_nil : DGs X [] [] gsNil := ⟨_, pgs_nil, fun hid O B H σ E v d E' r rv hm Q k => by
  unfold gsNil at hm
  split at hm
  · cases hm
    cases rv
    exact ⟨rfl, k σ r fun _ _ => rfl⟩
  · cases hm⟩
theorem dgs_cons {t : Expr} {ts : List Expr} {js ks : List Nat} {mg : En → D → Option En} {mh : En → List D → Option En} (h1 : DG X t js mg) (h2 : DGs X ts ks mh)
    (hs : (assignEach (t :: ts) X.env).map (·.2) = assign t X.env :: (assignEach ts X.env).map (·.2) := by rfl) : DGs X (t :: ts) (js ++ ks) (gsCons mg mh) := ⟨_, pgs_cons h1.pg h2.pg hs, fun hid O B H σ E v d E' r rv hm Q k => by
  unfold gsCons at hm
  split at hm
  · cases rv with
    | cons a b =>
      obtain ⟨E1, q1, q2⟩ := bind_some hm
      refine ⟨_, _, rfl, h1.si hid O B H σ E _ _ E1 r a q1 _ fun σ1 r1 w1 => ?_⟩
      exact h2.si hid O B H σ1 E1 _ _ E' r1 b q2 _ fun σ2 r2 w2 => k σ2 r2 fun vs hv => (w2 vs fun j hj => hv j (List.mem_append_right _ hj)).trans (w1 vs fun j hj => hv j (List.mem_append_left _ hj))
  · cases hm⟩
theorem dg_tup {es : List Expr} {k : Nat} {js : List Nat} {m : En → List D → Option En} {n : Nat} (hc : X.calm = true) (h : DGs X es js m)
    (hn : (assignEach es X.env).length = n := by rfl) (hst : (assignEach es X.env).findIdx? (·.1) = none := by rfl) : DG X (.Tuple es k pos) js (gTupM n m) := ⟨_, pg_tup hc h.pg hn hst, fun hid O B H σ E v d E' r rv hm Q k => by
  unfold gTupM at hm
  split at hm
  · by_cases hl : List.length ‹List D› = n
    · rw [if_pos hl] at hm
      cases rv with
      | tup h1 h2 => exact ⟨_, _, rfl, Evl.st_of (rem_some.mp h1).2, by rw [h2.length]; exact hl, h.si hid O B H σ E _ _ E' r h2 hm Q k⟩
    · rw [if_neg hl] at hm
      cases hm
  · cases hm⟩
end

/-! ### comprehensions -/
def runComp (mg : En → D → Option En) (mt : En → Option Bool) (me : En → Option D) (E0 : En) : List D → Option (List D)
  | [] => some []
  | d :: ds => (mg E0 d).bind fun E1 => (mt E1).bind fun b => if b = true then (me E1).bind fun r => (runComp mg mt me E0 ds).map (r :: ·) else runComp mg mt me E0 ds
@[simp] def mComp (vs : List Nat) (mi : En → Option (List D)) (mg : En → D → Option En) (mt : En → Option Bool) (me : En → Option D) : En → Option (List D) :=
  fun E => (mi E).bind fun ds => if ds.length ≤ 100000 then runComp mg mt me (wipeE E vs) ds else none
@[simp] def mYes : En → Option Bool := fun _ => some true
def DTs (X : Cx) (ifs : List Expr) (m : En → Option Bool) : Prop := ∃ tt, PTs X ifs tt ∧ SB X.K tt m
theorem DTs.pt {X : Cx} {ifs : List Expr} {m : En → Option Bool} (h : DTs X ifs m) : PTs X ifs (tBq X.K m) := by
  obtain ⟨te, p, s⟩ := h
  exact ⟨fun pins s0 σ H Q I h => p.run pins s0 σ H Q I (by obtain ⟨hid, O, B, E, d, r, hm, q⟩ := h; exact s hid O B H σ E d r hm Q q)⟩
theorem DTs.si {X : Cx} {ifs : List Expr} {m : En → Option Bool} (h : DTs X ifs m) : SB X.K (tBq X.K m) m := fun hid O B H σ E d r hm Q q => ⟨hid, O, B, E, d, r, hm, q⟩
section
variable {X : Cx}
theorem dts_nil : DTs X [] mYes := ⟨_, pts_nil, fun hid O B H σ E b r hm Q q => by
  cases hm
  exact q H (Ex.refl H)⟩
theorem dts_one {c : Expr} {m : En → Option Bool} (h : DB X c m) : DTs X [c] m := ⟨_, pts_one h.pt, h.si⟩
theorem sf_lc {K : PySem.W.Frag} {wi : TI} {g : TG} {tt : TT} {te : TE} {vs js : List Nat} {mi : En → Option (List D)} {mg : En → D → Option En} {mt : En → Option Bool} {me : En → Option D}
    (hi : SIT K wi mi) (hg : SG K g js mg) (hjs : ∀ j ∈ js, j ∈ vs) (ht : SB K tt mt) (he : SE K te me) : SF K (tLc wi g tt te vs) (mComp vs mi mg mt me) := fun hid O B H σ E out r hm Q q => by
  obtain ⟨ds, h1, hm⟩ := bind_some hm
  have hz : ds.length ≤ 100000 ∧ runComp mg mt me (wipeE E vs) ds = some out := by
    by_cases hz : ds.length ≤ 100000
    · rw [if_pos hz] at hm
      exact ⟨hz, hm⟩
    · rw [if_neg hz] at hm
      cases hm
  obtain ⟨hz, hm⟩ := hz
  refine hi hid O B H σ E ds r h1 _ fun J H2 G Y e2 w hG hY Dl hD => ?_
  have r2 := r.grow e2
  have assoc1 : ∀ a, orS (orS hid O) (· = Dl) a → orS hid (orS O (· = Dl)) a := fun a z => by
    rcases z with (z | z) | z
    · exact .inl z
    · exact .inr (.inl z)
    · exact .inr (.inr z)
  have assoc2 : ∀ a, orS hid (orS O (· = Dl)) a → orS (orS hid O) (· = Dl) a := fun a z => by
    rcases z with z | z | z
    · exact .inl (.inl z)
    · exact .inl (.inr z)
    · exact .inr z
  refine lc_it w (fun i H' => Ex H2 H' ∧ ∃ xs rs rest, H' Dl = some (.lst xs) ∧ RpL K (rem (orS hid (orS O (· = Dl))) H') xs rs ∧ runComp mg mt me (wipeE E vs) (ds.drop i) = some rest ∧ rs ++ rest = out ∧ xs.length ≤ i)
    ⟨Ex.new hD, [], [], out, upd_same, .nil, hm, rfl, Nat.zero_le _⟩ (fun i H' _ p => hG H' p.1) (fun i x H3 H3' hi p y => ?_) (fun H' p => ?_)
  · obtain ⟨e3, xs, rs, rest, g1, g2, g3, g4, g5⟩ := p
    have hdi : ds.drop i = ds[i] :: ds.drop (i + 1) := (List.drop_eq_getElem_cons hi)
    rw [hdi] at g3
    obtain ⟨E1, k1, g3⟩ := bind_some g3
    obtain ⟨b, k2, g3⟩ := bind_some g3
    have rA : RE K hid (orS O (· = Dl)) B H3 σ E := r2.addO hD e3 g1
    have exv : Ex (rem (orS hid O) H2) (rem (orS hid (orS O (· = Dl))) H3) := fun a o z => rem_sub assoc2 _ _ (rem_new hD e3 a o z)
    obtain ⟨e4, rx⟩ := hY i H3 x H3' (orS hid (orS O (· = Dl))) ds[i] y (List.getElem?_eq_getElem hi) exv (fun p hp => rA.fresh hp)
    have rW := (rA.grow e4).wiped vs
    refine hg hid _ B H3' _ _ x ds[i] E1 rW rx k1 _ fun σ2 r3 w3 => ⟨?_, ?_⟩
    · have := w3 vs hjs
      rw [this]
      refine List.ext_getElem? fun j => ?_
      rw [wipe_get, wipe_get, wipe_length]
      by_cases hj : j ∈ vs ∧ j < σ.length
      · rw [if_pos hj, if_pos hj]
      · rw [if_neg hj, if_neg hj]
    · refine ht hid _ B H3' σ2 E1 b r3 k2 _ fun H5 e5 => ?_
      cases b with
      | true =>
        rw [if_pos rfl] at g3 ⊢
        obtain ⟨d, k3, g3⟩ := bind_some g3
        obtain ⟨rest', k4, rfl⟩ := map_some g3
        refine he hid _ B H5 σ2 E1 d (r3.grow e5) k3 _ fun v H6 e6 rv => ?_
        have e36 := (e4.trans e5).trans e6
        refine ⟨xs, e36 Dl _ g1, by have : xs.length < 100000 := by omega
                                    exact size_lt this, Evl.Ex.mut (e3.trans e36) hD, xs ++ [v], rs ++ [d], rest', upd_same, ?_, k4, by rw [List.append_assoc]; exact g4, by rw [List.length_append]; simp only [List.length_singleton]; omega⟩
        exact (((g2.mono (rem_mono e36) _).app (.one rv)).mono (rem_upd (.inr (.inr rfl))) _)
      | false =>
        rw [if_neg Bool.false_ne_true] at g3 ⊢
        have e35 := e4.trans e5
        exact ⟨e3.trans e35, xs, rs, rest, e35 Dl _ g1, g2.mono (rem_mono e35) _, g3, g4, by omega⟩
  · obtain ⟨e3, xs, rs, rest, g1, g2, g3, g4, g5⟩ := p
    rw [List.drop_length] at g3
    cases g3
    rw [List.append_nil] at g4
    subst g4
    exact q Dl xs H' (Evl.fresh_back e2 hD) (e2.trans e3) g1 (g2.mono (rem_sub assoc1) _)
theorem df_lc {elt tg iter : Expr} {ifs : List Expr} {scope : Scope} {own : List (Str × Nat)} {pos : Pos} {js : List Nat} {mi : En → Option (List D)} {mg : En → D → Option En} {mt : En → Option Bool} {me : En → Option D}
    (hc : X.calm = true) (hN : X.N.Nodup) (hi : DIT X tg iter mi) (ok : BlkOk X.N X.env.scope scope own) (hjs : ∀ j ∈ js, j ∈ own.map (·.2))
    (hg : ∀ (s : Shared) (H : Hp) (C : Addr) (cl : List (Str × Addr)) (fp : List Addr), DG (X.blk s H scope (compEnvC scope cl C X.env) fp) tg js mg) (ht : ∀ (s : Shared) (H : Hp) (C : Addr) (cl : List (Str × Addr)) (fp : List Addr), DTs (X.blk s H scope (compEnvC scope cl C X.env) fp) ifs mt)
    (he : ∀ (s : Shared) (H : Hp) (C : Addr) (cl : List (Str × Addr)) (fp : List Addr), DE (X.blk s H scope (compEnvC scope cl C X.env) fp) elt me) (hs : ∀ x, foldedSetIterable iter X.env x = pure x := by intro _; rfl) :
    DF X (.ListComp elt [⟨tg, iter, ifs, 0⟩] scope pos) (mComp (own.map (·.2)) mi mg mt me) :=
  ⟨_, pe_lc hc hN hi.pi ok (fun s H C cl fp => (hg s H C cl fp).pg) (fun s H C cl fp => (ht s H C cl fp).pt) (fun s H C cl fp => (he s H C cl fp).pe) hs,
    sf_lc hi.si (hg X.s_0 X.H_0 0 [] []).si hjs (ht X.s_0 X.H_0 0 [] []).si (he X.s_0 X.H_0 0 [] []).si⟩
end

/-! ### statements -/
inductive Out where
  | nx (E : En) | rt (d : D) | bk (E : En) | ct (E : En) | rf (ds : List D) | tf (d : D) (ds : List D)
def End (K : PySem.W.Frag) (hid : AS) (B : Hp) (Dn : Ends) : Out → Prop
  | .nx E => ∀ O σ H, RE K hid O B H σ E → Dn.nx σ H
  | .rt d => ∀ v H, Ex B H → Rp K (rem hid H) v d → Dn.rt v H
  | .bk E => ∀ O σ H, RE K hid O B H σ E → Dn.bk σ H
  | .ct E => ∀ O σ H, RE K hid O B H σ E → Dn.ct σ H
  | .rf ds => ∀ p xs H, B p = none → Ex B H → H p = some (.lst xs) → RpL K (rem (orS hid (· = p)) H) xs ds → Dn.rt (.ref p) H
  | .tf d ds => ∀ q v p xs H, B p = none → Ex B H → H p = some (.lst xs) → RpL K (rem (orS hid (· = p)) H) xs ds → rem (orS hid (· = p)) H q = some (.tup [v, .ref p]) → Rp K (rem (orS hid (· = p)) H) v d → Dn.rt (.ref q) H
def SS (K : PySem.W.Frag) (t : TS) (m : En → Option Out) : Prop := ∀ (hid O : AS) (B H : Hp) (σ : L2.St) (E : En) (o : Out) (Dn : Ends), RE K hid O B H σ E → m E = some o → End K hid B Dn o → t Dn σ H
def tSq (K : PySem.W.Frag) (m : En → Option Out) : TS := fun Dn σ H => ∃ (hid O : AS) (B : Hp) (E : En) (o : Out), RE K hid O B H σ E ∧ m E = some o ∧ End K hid B Dn o
def DS (X : Cx) (st : Stmt) (m : En → Option Out) : Prop := ∃ t, PS X st t ∧ SS X.K t m
def DSs (X : Cx) (sts : List Stmt) (m : En → Option Out) : Prop := ∃ t, PSs X sts t ∧ SS X.K t m
theorem DS.ps {X : Cx} {st : Stmt} {m : En → Option Out} (h : DS X st m) : PS X st (tSq X.K m) := by
  obtain ⟨te, p, s⟩ := h
  exact ⟨fun pins s0 σ H Q I h => p.run pins s0 σ H Q I (by obtain ⟨hid, O, B, E, d, r, hm, q⟩ := h; exact s hid O B H σ E d Q r hm q)⟩
theorem DS.si {X : Cx} {st : Stmt} {m : En → Option Out} (h : DS X st m) : SS X.K (tSq X.K m) m := fun hid O B H σ E d Q r hm q => ⟨hid, O, B, E, d, r, hm, q⟩
theorem DSs.ps {X : Cx} {st : List Stmt} {m : En → Option Out} (h : DSs X st m) : PSs X st (tSq X.K m) := by
  obtain ⟨te, p, s⟩ := h
  exact ⟨fun pins s0 σ H Q I h => p.run pins s0 σ H Q I (by obtain ⟨hid, O, B, E, d, r, hm, q⟩ := h; exact s hid O B H σ E d Q r hm q)⟩
theorem DSs.si {X : Cx} {st : List Stmt} {m : En → Option Out} (h : DSs X st m) : SS X.K (tSq X.K m) m := fun hid O B H σ E d Q r hm q => ⟨hid, O, B, E, d, r, hm, q⟩
@[simp] def mNext : En → Option Out := fun E => some (.nx E)
@[simp] def mSeq (a b : En → Option Out) : En → Option Out := fun E => (a E).bind fun o => match o with
  | .nx E1 => b E1
  | o => some o
section
variable {X : Cx} {pos : Pos} {st : Stmt} {rest : List Stmt} {t u : TS} {m n : En → Option Out}
theorem dss_nil : DSs X [] mNext := ⟨_, pss_nil, fun hid O B H σ E o Dn r hm k => by
  cases hm
  exact k O σ H r⟩
theorem dss_cons (h1 : DS X st m) (h2 : DSs X rest n) : DSs X (st :: rest) (mSeq m n) := ⟨_, pss_cons h1.ps h2.ps, fun hid O B H σ E o Dn r hm k => by
  obtain ⟨o1, e1, hm⟩ := bind_some hm
  refine h1.si hid O B H σ E o1 _ r e1 ?_
  cases o1 with
  | nx E1 => exact fun O' σ' H' r' => h2.si hid O' B H' σ' E1 o Dn r' hm k
  | rt d => cases hm; exact k
  | bk E1 => cases hm; exact k
  | rf E1 => cases hm; exact k
  | tf d1 E1 => cases hm; exact k
  | ct E1 => cases hm; exact k⟩
theorem dss_one (h1 : DS X st m) : DSs X [st] m := ⟨_, pss_one h1.ps, h1.si⟩
/-- an owned list is let go -/
@[simp] def frzE (i : Nat) (E : En) : En := match E[i]? with
  | some (.ow ds) => E.set i (.fz (.lst ds))
  | _ => E
theorem RE.frzE {K : PySem.W.Frag} {hid O : AS} {B H : Hp} {σ : L2.St} {E : En} (r : RE K hid O B H σ E) (i : Nat) : ∃ O', RE K hid O' B H σ (frzE i E) := by
  unfold Sx.frzE
  split
  · rename_i ds h
    obtain ⟨O', r', _⟩ := r.frz h
    exact ⟨O', r'⟩
  · exact ⟨O, r⟩
@[simp] def mFrz (i : Nat) (m : En → Option Out) : En → Option Out := fun E => m (frzE i E)
theorem ds_frz (i : Nat) (h : DS X st m) : DS X st (mFrz i m) := ⟨_, h.ps, fun hid O B H σ E o Dn r hm k => by
  obtain ⟨O', r'⟩ := r.frzE i
  exact h.si hid O' B H σ _ o Dn r' hm k⟩
theorem ds_pass : DS X (.Pass pos) mNext := ⟨_, ps_pass, fun hid O B H σ E o Dn r hm k => by
  cases hm
  exact k O σ H r⟩
theorem ds_break : DS X (.Break pos) (fun E => some (.bk E)) := ⟨_, ps_break, fun hid O B H σ E o Dn r hm k => by
  cases hm
  exact k O σ H r⟩
theorem ds_continue : DS X (.Continue pos) (fun E => some (.ct E)) := ⟨_, ps_continue, fun hid O B H σ E o Dn r hm k => by
  cases hm
  exact k O σ H r⟩
@[simp] def mRet (m : En → Option D) : En → Option Out := fun E => (m E).map .rt
theorem ds_ret {e : Expr} {m : En → Option D} (h : DT X e m) : DS X (.Return (some e) pos) (mRet m) := ⟨_, ps_ret h.pe, fun hid O B H σ E o Dn r hm k => by
  obtain ⟨d, h1, rfl⟩ := map_some hm
  exact h.si hid O B H σ E d r h1 _ fun v H1 e1 r1 => k v H1 ((r.grow e1).ex) (r1.show fun p z => (r.own p z).1)⟩
/-- a new list is handed back; an owned one -/
@[simp] def mRetF (m : En → Option (List D)) : En → Option Out := fun E => (m E).map .rf
theorem ds_retF {e : Expr} {m : En → Option (List D)} (h : DF X e m) : DS X (.Return (some e) pos) (mRetF m) := ⟨_, ps_ret h.pe, fun hid O B H σ E o Dn r hm k => by
  obtain ⟨ds, h1, rfl⟩ := map_some hm
  exact h.si hid O B H σ E ds r h1 _ fun p xs H1 hp e1 hx r1 => k p xs H1 (Evl.fresh_back r.ex hp) ((r.grow e1).ex) hx (r1.mono (rem_sub fun a z => by
    rcases z with z | z
    · exact .inl (.inl z)
    · exact .inr z) ds)⟩
@[simp] def mRetO (i : Nat) : En → Option Out := fun E => match E[i]? with
  | some (.ow ds) => some (.rf ds)
  | some (.fz d) => some (.rt d)
  | _ => none
theorem ds_retO (i : Nat) {x : Str} {p : Pos} (hN : X.N[i]? = some x := by rfl) (hv : Vis X.env.scope x := by first | exact Or.inl rfl | exact Or.inr (Or.inl rfl) | exact Or.inr (Or.inr rfl)) (hd : (x == ("__debug__" : Str)) = false := by decide)
    (hcd : (x == ("__classdict__" : Str)) = false := by decide) : DS X (.Return (some (.Name x p)) pos) (mRetO i) := ⟨_, ps_ret (pe_var hN hv hd hcd), fun hid O B H σ E o Dn r hm k => by
  unfold mRetO at hm
  split at hm
  · rename_i ds h
    cases hm
    obtain ⟨q, xs, h1, h2, h3, h4⟩ := r.ow i ds h
    refine ⟨.ref q, h1, k q xs H ?_ r.ex h3 (h4.mono (rem_sub fun a z => ?_) ds)⟩
    · cases e : B q with
      | none => rfl
      | some u => exact absurd h2 (r.base q u e).2
    · rcases z with z | z
      · exact .inl z
      · exact .inr (z ▸ h2)
  · rename_i d h
    cases hm
    obtain ⟨v, h1, h2⟩ := r.fz i d h
    exact ⟨v, h1, k v H r.ex (h2.mono (rem_sub fun a z => .inl z) d)⟩
  · cases hm⟩
theorem ds_retN : DS X (.Return none pos) (fun _ => some (.rt .non)) := ⟨_, ps_retN, fun hid O B H σ E o Dn r hm k => by
  cases hm
  exact k .non H r.ex .non⟩
/-- x = e -/
@[simp] def mSet (i : Nat) (m : En → Option D) : En → Option Out := fun E => (m E).map fun d => .nx (E.set i (.fz d))
theorem ds_set (i : Nat) {x : Str} {e : Expr} {m : En → Option D} {pos' : Pos} (hN : X.N.Nodup) (he : DE X e m) (hi : X.N[i]? = some x := by rfl) (hx : Loc X.env.scope x := by first | exact Or.inl rfl | exact Or.inr rfl) (hs : swapsWith e (some (.Name x pos')) pos.line X.env = pure false := by rfl)
    (hf : X.fn x = true ∨ X.env.scope.names.lookup x = some .local := by first | exact .inl rfl | exact .inr rfl) : DS X (.Assign [.Name x pos'] e pos) (mSet i m) := ⟨_, ps_set hN hi hx he.pe hs hf, fun hid O B H σ E o Dn r hm k => by
  obtain ⟨d, h1, rfl⟩ := map_some hm
  exact he.si hid O B H σ E d r h1 _ fun v H1 e1 r1 => k O _ H1 ((r.grow e1).put i r1)⟩
/-- x = e, e a new list that x then owns -/
@[simp] def mSetO (i : Nat) (m : En → Option (List D)) : En → Option Out := fun E => (m E).map fun ds => .nx (E.set i (.ow ds))
theorem ss_setO {K : PySem.W.Frag} (i : Nat) {te : TE} {m : En → Option (List D)} (h : SF K te m) : SS K (tAsg te (gName i)) (mSetO i m) := fun hid O B H σ E o Dn r hm k => by
  obtain ⟨ds, h1, rfl⟩ := map_some hm
  exact h hid O B H σ E ds r h1 _ fun p xs H1 hp e1 hx r1 => k _ _ H1 (r.putO i hp e1 hx r1)
theorem ds_setO (i : Nat) {x : Str} {e : Expr} {m : En → Option (List D)} {pos' : Pos} (hN : X.N.Nodup) (he : DF X e m) (hi : X.N[i]? = some x := by rfl) (hx : Loc X.env.scope x := by first | exact Or.inl rfl | exact Or.inr rfl) (hs : swapsWith e (some (.Name x pos')) pos.line X.env = pure false := by rfl)
    (hf : X.fn x = true ∨ X.env.scope.names.lookup x = some .local := by first | exact .inl rfl | exact .inr rfl) : DS X (.Assign [.Name x pos'] e pos) (mSetO i m) := ⟨_, ps_set hN hi hx he.pe hs hf, ss_setO i he.si⟩
/-- targets = e -/
@[simp] def mAsg (g : En → D → Option En) (m : En → Option D) : En → Option Out := fun E => (m E).bind fun d => (g E d).map .nx
theorem ds_asg {tg e : Expr} {js : List Nat} {m : En → Option D} {mg : En → D → Option En} (he : DE X e m) (hg : DG X tg js mg) (hs : swapsWithSole [tg] e pos.line X.env = pure false := by rfl) (hw : swappedStores [tg] e X.env = pure none := by rfl)
    (h1 : (assignEach [tg] X.env).map (·.2) = [assign tg X.env] := by rfl) : DS X (.Assign [tg] e pos) (mAsg mg m) := ⟨_, ps_asg he.pe hg.pg hs hw h1, fun hid O B H σ E o Dn r hm k => by
  obtain ⟨d, h1, hm⟩ := bind_some hm
  obtain ⟨E', h2, rfl⟩ := map_some hm
  exact he.si hid O B H σ E d r h1 _ fun v H1 e1 r1 => hg.si hid O B H1 σ E v d E' (r.grow e1) r1 h2 _ fun σ' r' _ => k O σ' H1 r'⟩
/-- e as a statement -/
@[simp] def mDrop (m : En → Option D) : En → Option Out := fun E => (m E).map fun _ => .nx E
theorem ds_expr {e : Expr} {m : En → Option D} (he : DE X e m) (hs : swapsWith e none pos.line X.env = pure false := by rfl) : DS X (.Expr e pos) (mDrop m) := ⟨_, ps_expr he.pe hs, fun hid O B H σ E o Dn r hm k => by
  obtain ⟨d, h1, rfl⟩ := map_some hm
  exact he.si hid O B H σ E d r h1 _ fun v H1 e1 r1 => k O σ H1 (r.grow e1)⟩
@[simp] def mIfS (c : En → Option Bool) (a b : En → Option Out) : En → Option Out := fun E => (c E).bind fun k => if k = true then a E else b E
theorem ds_if {c : Expr} {a b : List Stmt} {mc : En → Option Bool} (hc : DB X c mc) (ha : DSs X a m) (hb : DSs X b n) : DS X (.If c a b pos) (mIfS mc m n) := ⟨_, ps_if hc.pt ha.ps hb.ps, fun hid O B H σ E o Dn r hm k => by
  obtain ⟨b, h1, hm⟩ := bind_some hm
  refine hc.si hid O B H σ E b r h1 _ fun H1 e1 => ?_
  cases b with
  | true =>
    rw [if_pos rfl] at hm ⊢
    exact ha.si hid O B H1 σ E o Dn (r.grow e1) hm k
  | false =>
    rw [if_neg Bool.false_ne_true] at hm ⊢
    exact hb.si hid O B H1 σ E o Dn (r.grow e1) hm k⟩
/-! loops -/
def runFor (mg : En → D → Option En) (mb : En → Option Out) : List D → En → Option Out
  | [], E => some (.nx E)
  | d :: ds, E => (mg E d).bind fun E1 => (mb E1).bind fun o => match o with
    | .nx E2 => runFor mg mb ds E2
    | .ct E2 => runFor mg mb ds E2
    | .bk E2 => some (.nx E2)
    | .rt r => some (.rt r)
    | .rf r => some (.rf r)
    | .tf d r => some (.tf d r)
@[simp] def mFor (mi : En → Option (List D)) (mg : En → D → Option En) (mb : En → Option Out) : En → Option Out := fun E => (mi E).bind fun ds => runFor mg mb ds E
theorem ss_for {K : PySem.W.Frag} {wi : TI} {g : TG} {tb : TS} {js : List Nat} {mi : En → Option (List D)} {mg : En → D → Option En} {mb : En → Option Out} (hi : SI K wi mi) (hg : SG K g js mg) (hb : SS K tb mb) : SS K (tFor wi g tb) (mFor mi mg mb) := fun hid O B H σ E o Dn r hm k => by
  obtain ⟨ds, h1, hm⟩ := bind_some hm
  refine hi hid O B H σ E ds r h1 _ fun J H2 G Y e2 w hG hY => ?_
  have r2 := r.grow e2
  have rb := r2.rebase
  have back : ∀ {O' H' σ' E'}, RE K hid O' (rem O H2) H' σ' E' → RE K hid O' B H' σ' E' := fun q => q.back r2.old r.hidd
  have vis : ∀ {O' H' σ' E'}, RE K hid O' (rem O H2) H' σ' E' → Ex (rem (orS hid O) H2) (rem (orS hid O') H') := fun q a u z => by
    obtain ⟨z1, z2⟩ := rem_some.mp z
    obtain ⟨z3, z4⟩ := q.base a u (rem_some.mpr ⟨fun y => z1 (.inr y), z2⟩)
    refine rem_some.mpr ⟨fun y => ?_, z3⟩
    rcases y with y | y
    · exact z1 (.inl y)
    · exact z4 y
  refine for_it w (fun i σ' H' => ∃ O' E', RE K hid O' (rem O H2) H' σ' E' ∧ runFor mg mb (ds.drop i) E' = some o) ⟨O, E, rb, hm⟩ (fun i σ' H' _ p => ?_) (fun i x σ' H3 H4 hi p y => ?_) (fun σ' H' p => ?_)
  · obtain ⟨O', E', q, _⟩ := p
    exact hG H' (Ex.trans (vis q) rem_ex)
  · obtain ⟨O', E', q, hr⟩ := p
    rw [List.drop_eq_getElem_cons hi] at hr
    obtain ⟨E1, k1, hr⟩ := bind_some hr
    obtain ⟨o1, k2, hr⟩ := bind_some hr
    obtain ⟨e4, rx⟩ := hY i H3 x H4 (orS hid O') ds[i] y (List.getElem?_eq_getElem hi) (vis q) fun p hp => q.fresh hp
    refine hg hid O' (rem O H2) H4 σ' E' x ds[i] E1 (q.grow e4) rx k1 _ fun σ2 r3 _ => ?_
    refine hb hid O' (rem O H2) H4 σ2 E1 o1 _ r3 k2 ?_
    cases o1 with
    | nx E2 => exact fun O5 σ5 H5 r5 => ⟨O5, E2, r5, hr⟩
    | ct E2 => exact fun O5 σ5 H5 r5 => ⟨O5, E2, r5, hr⟩
    | bk E2 => cases hr; exact fun O5 σ5 H5 r5 => k O5 σ5 H5 (back r5)
    | rt d => cases hr; exact fun v H5 e5 r5 => k v H5 (Ex.trans (Ex.trans r2.old (Ex.refl _)) e5) r5
    | rf d => cases hr; exact fun p xs H5 hp e5 hx r5 => k p xs H5 (Evl.fresh_back r2.old hp) (Ex.trans r2.old e5) hx r5
    | tf d0 d => cases hr; exact fun q v p xs H5 hp e5 hx r5 => k q v p xs H5 (Evl.fresh_back r2.old hp) (Ex.trans r2.old e5) hx r5
  · obtain ⟨O', E', q, hr⟩ := p
    rw [List.drop_length] at hr
    cases hr
    exact k O' σ' H' (back q)
theorem ds_for {tg iter : Expr} {body : List Stmt} {js : List Nat} {mi : En → Option (List D)} {mg : En → D → Option En} {mb : En → Option Out} (hp : PassesOwn (model X.prog X.w) X.A X.env X.xe) (hc : X.calm = true) (hi : DI X tg iter mi) (hg : DG X tg js mg) (hb : DSs X body mb)
    (hs : ∀ x, foldedSetIterable iter X.env x = pure x := by intro _; rfl) : DS X (.For tg iter body [] pos) (mFor mi mg mb) := ⟨_, ps_for hp hc hi.pi hg.pg hb.ps hs, ss_for hi.si hg.si hb.si⟩
def runWhile (mc : En → Option Bool) (mb : En → Option Out) : Nat → En → Option Out
  | 0, _ => none
  | n + 1, E => (mc E).bind fun b => if b = true then (mb E).bind fun o => match o with
    | .nx E2 => runWhile mc mb n E2
    | .ct E2 => runWhile mc mb n E2
    | .bk E2 => some (.nx E2)
    | .rt r => some (.rt r)
    | .rf r => some (.rf r)
    | .tf d r => some (.tf d r)
    else some (.nx E)
def mWhile (fuel : Nat) (mc : En → Option Bool) (mb : En → Option Out) : En → Option Out := fun E => runWhile mc mb fuel E
theorem ss_while {K : PySem.W.Frag} (fuel : Nat) {tc : TT} {tb : TS} {mc : En → Option Bool} {mb : En → Option Out} (hc : SB K tc mc) (hb : SS K tb mb) : SS K (tWhile tc tb) (mWhile fuel mc mb) := fun hid O B H σ E o Dn r hm k => by
  refine ⟨fun n σ' H' => ∃ O' E', RE K hid O' B H' σ' E' ∧ runWhile mc mb n E' = some o, ⟨fuel, O, E, r, hm⟩, fun n σ' H' p => ?_⟩
  obtain ⟨O', E', q, hr⟩ := p
  cases n with
  | zero => cases hr
  | succ n =>
    obtain ⟨b, k1, hr⟩ := bind_some hr
    refine hc hid O' B H' σ' E' b q k1 _ fun H1 e1 => ?_
    cases b with
    | true =>
      rw [if_pos rfl] at hr ⊢
      obtain ⟨o1, k2, hr⟩ := bind_some hr
      refine ⟨fun σ2 H2 => ∃ O2 E2, RE K hid O2 B H2 σ2 E2 ∧ runWhile mc mb n E2 = some o, fun σ2 H2 z => ⟨n, Nat.lt_succ_self n, z⟩, ?_⟩
      refine hb hid O' B H1 σ' E' o1 _ (q.grow e1) k2 ?_
      cases o1 with
      | nx E2 => exact fun O5 σ5 H5 r5 => ⟨O5, E2, r5, hr⟩
      | ct E2 => exact fun O5 σ5 H5 r5 => ⟨O5, E2, r5, hr⟩
      | bk E2 => cases hr; exact k
      | rf E2 => cases hr; exact k
      | tf d0 E2 => cases hr; exact k
      | rt d => cases hr; exact k
    | false =>
      rw [if_neg Bool.false_ne_true] at hr ⊢
      cases hr
      exact k O' σ' H1 (q.grow e1)
theorem ds_while (fuel : Nat) {c : Expr} {body : List Stmt} {mc : En → Option Bool} {mb : En → Option Out} (hp : PassesOwn (model X.prog X.w) X.A X.env X.xe) (hc : DB X c mc) (hb : DSs X body mb) : DS X (.While c body [] pos) (mWhile fuel mc mb) :=
  ⟨_, ps_while hp hc.pt hb.ps, ss_while fuel hc.si hb.si⟩
end
end Sx

set_option Elab.async false
set_option linter.all false
set_option maxRecDepth 100000
set_option maxHeartbeats 1000000
namespace Sx
open PySem PySem.Spec PyProof.Rows L2
open Evl (Ex)

/-! ### built-in functions -/
section
variable {X : Cx} {a b : Expr} {ta tb : TE} {ma mb : En → Option D} {p pos : Pos}
/-- one argument -/
theorem se_call1 {K : PySem.W.Frag} {r : List V → Hp → VK → Prop} {f : D → Option D} (ha : ST K ta ma)
    (h : ∀ (hid O : AS) (H : Hp) (v : V) (x d : D), Al hid O H → Tv K hid O H v x → f x = some d → ∀ Q : VK, (∀ w H', Ex H H' → Rp K (rem (orS hid O) H') w d → Q w H') → r [v] H Q) : SE K (tCB r (tCons ta tNil)) (mUn f ma) := fun hid O B H σ E d re hm Q q => by
  obtain ⟨x, h1, hm⟩ := bind_some hm
  refine ha hid O B H σ E x re h1 _ fun v H1 e1 r1 => ?_
  exact h hid O H1 v x d (al_of (re.grow e1)) r1 hm Q fun w H2 e2 r2 => q w H2 (e1.trans e2) r2
abbrev rLenQ (K : PySem.W.Frag) : List V → Hp → VK → Prop := fun xs H Q => ∃ p ys, xs = [V.ref p] ∧ (SqL K H p ys ∨ SqT K H p ys) ∧ Q (.int ys.length) H
abbrev rLenS : List V → Hp → VK → Prop := fun xs H Q => ∃ z : Str, xs = [V.str z] ∧ z.length ≤ sizeLine ∧ Q (.int z.length) H
abbrev rLenAll (K : PySem.W.Frag) : List V → Hp → VK → Prop := fun xs H Q => rLenQ K xs H Q ∨ rLenS xs H Q
@[simp] def lenD : D → Option D
  | .lst ds => some (.int ds.length)
  | .tup ds => some (.int ds.length)
  | .scr ns => some (.int ns.length)
  | .str z => if z.length ≤ 100000 then some (.int z.length) else none
  | _ => none
theorem de_len (hm : X.mg "len" = none) (ha : DT X a ma) (hg : Gl X "len" := by rfl) (hs : starEach [a] X.env = (false, eval a X.env) :: starEach [] X.env := by rfl) (hpl : (backTo pos (starEach [] X.env)).any (·.1) = false := by rfl) :
    DE X (.Call (.Name "len" p) [a] [] pos) (mUn lenD ma) := ⟨_, pe_callB (CallR.or call_len_seq call_len_str) hg hm PySem.boot_len (pa_cons ha.pe pa_nil hs) (by decide) (by decide) hs hpl, se_call1 ha.si fun hid O H v x d al rv hx Q q => by
  unfold lenD at hx
  split at hx
  · cases hx
    obtain ⟨p, xs, rfl, h1, h2⟩ := rv.seq
    refine .inl ⟨p, xs, rfl, .inl h1, ?_⟩
    rw [h2.length]
    exact q _ H (Ex.refl H) (.int _)
  · cases hx
    obtain ⟨p, xs, rfl, h1, h2⟩ := rv.tup
    refine .inl ⟨p, xs, rfl, .inr (Evl.st_of (rem_some.mp h1).2), ?_⟩
    rw [h2.length]
    exact q _ H (Ex.refl H) (.int _)
  · cases hx
    obtain ⟨p, rfl, h1⟩ := rv.scr
    refine .inl ⟨p, _, rfl, .inl h1, ?_⟩
    rw [List.length_map]
    exact q _ H (Ex.refl H) (.int _)
  · obtain ⟨h1, rfl⟩ := ite_some hx
    obtain rfl := rv.str
    exact .inr ⟨_, rfl, size_le h1, q _ H (Ex.refl H) (.int _)⟩
  · cases hx⟩
/-- int(x) of an int, of a bool -/
@[simp] def intD : D → Option D
  | .int i => some (.int i)
  | .bl b => some (.int (if b = true then 1 else 0))
  | _ => none
theorem de_int1 (hm : X.mg "int" = none) (ha : DT X a ma) (hg : Gl X "int" := by rfl) (hs : starEach [a] X.env = (false, eval a X.env) :: starEach [] X.env := by rfl) (hpl : (backTo pos (starEach [] X.env)).any (·.1) = false := by rfl) :
    DE X (.Call (.Name "int" p) [a] [] pos) (mUn intD ma) := ⟨_, pe_callTy call_int1 hg hm boot_int (pa_cons ha.pe pa_nil hs) (by decide) (by decide) hs hpl, se_call1 ha.si fun hid O H v x d al rv hx Q q => by
  unfold intD at hx
  split at hx
  · cases hx
    exact .inl ⟨_, by rw [rv.int], q _ H (Ex.refl H) (.int _)⟩
  · cases hx
    exact .inr ⟨_, by rw [rv.bl], q _ H (Ex.refl H) (.int _)⟩
  · cases hx⟩
@[simp] def minD : D → D → Option D
  | .int i, .int j => some (.int (if j < i then j else i))
  | _, _ => none
@[simp] def maxD : D → D → Option D
  | .int i, .int j => some (.int (if j > i then j else i))
  | _, _ => none
theorem de_min2 (hc : X.calm = true) (hm : X.mg "min" = none) (ha : DT X a ma) (hb : DT X b mb) (hg : Gl X "min" := by rfl) (hs : starEach [a, b] X.env = (false, eval a X.env) :: starEach [b] X.env := by rfl) (hs2 : starEach [b] X.env = (false, eval b X.env) :: starEach [] X.env := by rfl) (hpl : (backTo pos (starEach [b] X.env)).any (·.1) = false := by rfl) :
    DE X (.Call (.Name "min" p) [a, b] [] pos) (mBin minD ma mb) := ⟨_, pe_callB (call_min2 hc) hg hm (by decide +kernel) (pa_cons ha.pe (pa_cons hb.pe pa_nil hs2) hs) (by decide) (by decide) hs hpl, fun hid O B H σ E d re hm Q q => by
  obtain ⟨x, h1, hm⟩ := bind_some hm
  obtain ⟨y, h2, hm⟩ := bind_some hm
  unfold minD at hm
  split at hm
  · cases hm
    refine ha.si hid O B H σ E _ re h1 _ fun v H1 e1 r1 => ?_
    refine hb.si hid O B H1 σ E _ (re.grow e1) h2 _ fun u H2 e2 r2 => ?_
    exact ⟨_, _, by rw [r1.int, r2.int], q _ H2 (e1.trans e2) (.int _)⟩
  · cases hm⟩
theorem de_max2 (hc : X.calm = true) (hm : X.mg "max" = none) (ha : DT X a ma) (hb : DT X b mb) (hg : Gl X "max" := by rfl) (hs : starEach [a, b] X.env = (false, eval a X.env) :: starEach [b] X.env := by rfl) (hs2 : starEach [b] X.env = (false, eval b X.env) :: starEach [] X.env := by rfl) (hpl : (backTo pos (starEach [b] X.env)).any (·.1) = false := by rfl) :
    DE X (.Call (.Name "max" p) [a, b] [] pos) (mBin maxD ma mb) := ⟨_, pe_callB (call_max2 hc) hg hm (by decide +kernel) (pa_cons ha.pe (pa_cons hb.pe pa_nil hs2) hs) (by decide) (by decide) hs hpl, fun hid O B H σ E d re hm Q q => by
  obtain ⟨x, h1, hm⟩ := bind_some hm
  obtain ⟨y, h2, hm⟩ := bind_some hm
  unfold maxD at hm
  split at hm
  · cases hm
    refine ha.si hid O B H σ E _ re h1 _ fun v H1 e1 r1 => ?_
    refine hb.si hid O B H1 σ E _ (re.grow e1) h2 _ fun u H2 e2 r2 => ?_
    exact ⟨_, _, by rw [r1.int, r2.int], q _ H2 (e1.trans e2) (.int _)⟩
  · cases hm⟩
/-! lists of ints -/
def allInts : List D → Option (List Int)
  | [] => some []
  | .int i :: ds => (allInts ds).map (i :: ·)
  | _ :: _ => none
theorem allInts_some : ∀ {ds : List D} {ns : List Int}, allInts ds = some ns → ds = ns.map .int
  | [], ns, h => by cases h; rfl
  | .int i :: ds, ns, h => by
    obtain ⟨ms, h1, rfl⟩ := map_some (show (allInts ds).map (i :: ·) = some ns from h)
    rw [allInts_some h1]
    rfl
  | .non :: ds, ns, h => by cases h
  | .bl _ :: ds, ns, h => by cases h
  | .str _ :: ds, ns, h => by cases h
  | .lst _ :: ds, ns, h => by cases h
  | .tup _ :: ds, ns, h => by cases h
  | .scr _ :: ds, ns, h => by cases h
theorem allInts_map : ∀ (ns : List Int), allInts (ns.map .int) = some ns
  | [] => rfl
  | n :: ns => by
    show (allInts (ns.map .int)).map (n :: ·) = _
    rw [allInts_map ns]
    rfl
@[simp] def intsOf : D → Option (List Int)
  | .lst ds => allInts ds
  | .scr ns => some ns
  | _ => none
theorem ints_tv {K : PySem.W.Frag} {hid O : AS} {H : Hp} {v : V} {x : D} {ns : List Int} (rv : Tv K hid O H v x) (h : intsOf x = some ns) : ∃ p, v = .ref p ∧ SqL K H p (ns.map V.int) := by
  unfold intsOf at h
  split at h
  · obtain ⟨p, xs, rfl, h1, h2⟩ := rv.seq
    rw [allInts_some h] at h2
    rw [RpL.ints_of h2] at h1
    exact ⟨p, rfl, h1⟩
  · cases h
    exact rv.scr
  · cases h
@[simp] def sumD (d : D) : Option D := (intsOf d).map fun ns => .int ns.sum
theorem de_sum (hc : X.calm = true) (hm : X.mg "sum" = none) (ha : DT X a ma) (hg : Gl X "sum" := by rfl) (hs : starEach [a] X.env = (false, eval a X.env) :: starEach [] X.env := by rfl) (hpl : (backTo pos (starEach [] X.env)).any (·.1) = false := by rfl) :
    DE X (.Call (.Name "sum" p) [a] [] pos) (mUn sumD ma) := ⟨_, pe_callB (cr_sum hc) hg hm (by decide +kernel) (pa_cons ha.pe pa_nil hs) (by decide) (by decide) hs hpl, se_call1 ha.si fun hid O H v x d al rv hx Q q => by
  obtain ⟨ns, h1, rfl⟩ := map_some hx
  obtain ⟨p, rfl, h2⟩ := ints_tv rv h1
  exact ⟨p, ns, rfl, h2, q _ H (Ex.refl H) (.int _)⟩⟩
/-- list(x) of a list, of a tuple -/
@[simp] def seqOf : D → Option (List D)
  | .lst ds => some ds
  | .tup ds => some ds
  | .scr ns => some (ns.map .int)
  | _ => none
theorem df_list (hm : X.mg "list" = none) (ha : DT X a ma) (hg : Gl X "list" := by rfl) (hs : starEach [a] X.env = (false, eval a X.env) :: starEach [] X.env := by rfl) (hpl : (backTo pos (starEach [] X.env)).any (·.1) = false := by rfl) :
    DF X (.Call (.Name "list" p) [a] [] pos) (fun E => (ma E).bind seqOf) := ⟨_, pe_callTy call_list_of hg hm (by decide +kernel) (pa_cons ha.pe pa_nil hs) (by decide) (by decide) hs hpl, fun hid O B H σ E ds re hm Q q => by
  obtain ⟨x, h1, hm⟩ := bind_some hm
  refine ha.si hid O B H σ E _ re h1 _ fun v H1 e1 r1 => ?_
  unfold seqOf at hm
  split at hm
  · cases hm
    obtain ⟨p, xs, rfl, h1, h2⟩ := r1.seq
    refine ⟨p, xs, rfl, .inl h1, fun l hl => ?_⟩
    have ex : Ex H1 (upd H1 l (.lst xs)) := Ex.new hl
    exact q l _ _ (Evl.fresh_back e1 hl) (e1.trans ex) upd_same (h2.mono (rem_new hl ex) _)
  · cases hm
    obtain ⟨p, xs, rfl, h1, h2⟩ := r1.tup
    refine ⟨p, xs, rfl, .inr (Evl.st_of (rem_some.mp h1).2), fun l hl => ?_⟩
    have ex : Ex H1 (upd H1 l (.lst xs)) := Ex.new hl
    exact q l _ _ (Evl.fresh_back e1 hl) (e1.trans ex) upd_same (h2.mono (rem_new hl ex) _)
  · cases hm
    obtain ⟨p, rfl, h1⟩ := r1.scr
    refine ⟨p, _, rfl, .inl h1, fun l hl => ?_⟩
    exact q l _ _ (Evl.fresh_back e1 hl) (e1.trans (Ex.new hl)) upd_same (RpL.ints _)
  · cases hm⟩
/-- tuple(x) of a list, of a tuple -/
@[simp] def tupleD : D → Option D
  | .lst ds => some (.tup ds)
  | .tup ds => some (.tup ds)
  | _ => none
theorem de_tuple (hm : X.mg "tuple" = none) (ha : DT X a ma) (hg : Gl X "tuple" := by rfl) (hs : starEach [a] X.env = (false, eval a X.env) :: starEach [] X.env := by rfl) (hpl : (backTo pos (starEach [] X.env)).any (·.1) = false := by rfl) :
    DE X (.Call (.Name "tuple" p) [a] [] pos) (mUn tupleD ma) := ⟨_, pe_callTy call_tuple_of hg hm (by decide +kernel) (pa_cons ha.pe pa_nil hs) (by decide) (by decide) hs hpl, se_call1 ha.si fun hid O H v x d al rv hx Q q => by
  unfold tupleD at hx
  split at hx
  · cases hx
    obtain ⟨p, xs, rfl, h1, h2⟩ := rv.seq
    refine ⟨p, xs, rfl, .inl ⟨h1, fun l hl => ?_⟩⟩
    have ex : Ex H (upd H l (.tup xs)) := Ex.new hl
    exact q _ _ ex (.tup (vis_new (al l hl) upd_same) (h2.mono (rem_mono ex) _))
  · cases hx
    obtain ⟨p, xs, rfl, h1, h2⟩ := rv.tup
    exact ⟨p, xs, rfl, .inr ⟨Evl.st_of (rem_some.mp h1).2, q _ H (Ex.refl H) (.tup h1 h2)⟩⟩
  · cases hx⟩
/-! sorted -/
def insI (x : Int) : List Int → List Int
  | [] => [x]
  | y :: ys => if x ≤ y then x :: y :: ys else y :: insI x ys
def sortI : List Int → List Int
  | [] => []
  | x :: xs => insI x (sortI xs)
theorem insI_perm (x : Int) : ∀ ys, (insI x ys).Perm (x :: ys)
  | [] => .refl _
  | y :: ys => by
    unfold insI
    split
    · exact .refl _
    · exact ((insI_perm x ys).cons y).trans (.swap x y ys)
theorem sortI_perm : ∀ xs, (sortI xs).Perm xs
  | [] => .refl _
  | x :: xs => (insI_perm x (sortI xs)).trans ((sortI_perm xs).cons x)
theorem insI_le {x : Int} : ∀ {ys : List Int}, ys.Pairwise (· ≤ ·) → (insI x ys).Pairwise (· ≤ ·)
  | [], _ => List.pairwise_singleton _ _
  | y :: ys, h => by
    unfold insI
    obtain ⟨h1, h2⟩ := List.pairwise_cons.mp h
    split
    · rename_i hx
      refine List.pairwise_cons.mpr ⟨fun z hz => ?_, h⟩
      rcases List.mem_cons.mp hz with e | e
      · rw [e]; exact hx
      · exact Int.le_trans hx (h1 z e)
    · rename_i hx
      refine List.pairwise_cons.mpr ⟨fun z hz => ?_, insI_le h2⟩
      rcases List.mem_cons.mp ((insI_perm x ys).mem_iff.mp hz) with e | e
      · rw [e]; omega
      · exact h1 z e
theorem sortI_le : ∀ xs : List Int, (sortI xs).Pairwise (· ≤ ·)
  | [] => .nil
  | x :: xs => insI_le (sortI_le xs)
theorem sorted_uniq : ∀ {xs ys : List Int}, xs.Perm ys → xs.Pairwise (· ≤ ·) → ys.Pairwise (· ≤ ·) → xs = ys
  | [], ys, p, _, _ => by rw [List.nil_perm.mp p]
  | x :: xs, [], p, _, _ => by
    have := p.length_eq
    simp at this
  | x :: xs, y :: ys, p, h1, h2 => by
    obtain ⟨a1, a2⟩ := List.pairwise_cons.mp h1
    obtain ⟨b1, b2⟩ := List.pairwise_cons.mp h2
    have e : x = y := by
      have hx : x ∈ y :: ys := p.mem_iff.mp (List.mem_cons_self ..)
      have hy : y ∈ x :: xs := p.mem_iff.mpr (List.mem_cons_self ..)
      have l1 : y ≤ x := by
        rcases List.mem_cons.mp hx with z | z
        · rw [z]; exact Int.le_refl _
        · exact b1 x z
      have l2 : x ≤ y := by
        rcases List.mem_cons.mp hy with z | z
        · rw [z]; exact Int.le_refl _
        · exact a1 y z
      omega
    subst e
    rw [sorted_uniq p.cons_inv a2 b2]
theorem df_sorted (hm : X.mg "sorted" = none) (ha : DT X a ma) (hg : Gl X "sorted" := by rfl) (hs : starEach [a] X.env = (false, eval a X.env) :: starEach [] X.env := by rfl) (hpl : (backTo pos (starEach [] X.env)).any (·.1) = false := by rfl) :
    DF X (.Call (.Name "sorted" p) [a] [] pos) (fun E => ((ma E).bind intsOf).map fun ns => (sortI ns).map .int) := ⟨_, pe_callB cr_sortedI hg hm (by decide +kernel) (pa_cons ha.pe pa_nil hs) (by decide) (by decide) hs hpl, fun hid O B H σ E ds re hm Q q => by
  obtain ⟨ns, h1, rfl⟩ := map_some hm
  obtain ⟨x, h0, h1⟩ := bind_some h1
  refine ha.si hid O B H σ E _ re h0 _ fun v H1 e1 r1 => ?_
  obtain ⟨p, rfl, h2⟩ := ints_tv r1 h1
  refine ⟨p, ns, rfl, h2, fun ns' l hp hs hl => ?_⟩
  rw [sorted_uniq (hp.trans (sortI_perm ns).symm) hs (sortI_le ns)]
  exact q l _ _ (Evl.fresh_back e1 hl) (e1.trans (Ex.new hl)) upd_same (RpL.ints _)⟩
/-! len(set(list of ints)) -/
def tLenSetX (K : PySem.W.Frag) (ta : TE) : TE := fun σ H Q => ta σ H fun x H1 => ∃ (l : Addr) (ns : List Int), x = V.ref l ∧ SqL K H1 l (ns.map V.int) ∧ ns.length < 4000 ∧ Q (.int (firstMet (fun i => ns.getD i 0) ns.length).length) H1
theorem pe_lenSetX {p2 q : Pos} (hc : X.calm = true) (hg : Gl X "len") (hm : X.mg "len" = none) (hg2 : Gl X "set") (hm2 : X.mg "set" = none) (ha : PE X a ta)
    (na : starEach [a] X.env = (false, eval a X.env) :: starEach [] X.env := by rfl) : PE X (.Call (.Name "len" p) [.Call (.Name "set" p2) [a] [] q] [] pos) (tLenSetX X.K ta) := by
  refine ⟨fun pins s σ H Q I h => ?_⟩
  refine Call_ (ld_blt I hg hm PySem.boot_len ?_)
  refine PyProof.Rows.callWith_builtin1 (PyProof.Rows.args_cons ?_ rfl) rfl rfl
  refine Call_ (ld_blt I hg2 hm2 PyProof.Rows.boot_set ?_)
  refine PyProof.Rows.callWith_type1 (PyProof.Rows.args_cons (thn (ha.run pins s σ H _ I h) fun v s1 ⟨x, H1, I1, r1, q1⟩ => PyProof.Rows.args_nil ?_) na) na rfl
  obtain ⟨l, ns, rfl, hq, h1, q1⟩ := q1
  cases r1
  obtain ⟨its, r, pl, hz⟩ := I1.list hq
  have hl : its.toArray.size = ns.length := by rw [List.size_toArray, ← r.length, List.length_map]
  refine call_set_list (I1.ok.hd hc) pl.isList (ns := ns) (by simpa using r.ints) (by unfold scanBound; omega) fun h' tk hS hk => ?_
  rw [hl] at hS
  refine PyProof.Rows.args_nil ?_
  obtain ⟨o, es, ep, t, ho, hex, hd, _, _, _, hf, hn⟩ := hS
  have I2 : Inv X pins σ H1 { s1 with heap := h', toks := tk } := I1.kept fun b o e => hk b o (Heap.lt_size e) e
  have hle := firstMet_length_le (fun i => ns.getD i 0) ns.length
  refine call_len_set ho hex hd hf (by rw [hn] <;> omega) ⟨.int (firstMet (fun i => ns.getD i 0) ns.length).length, H1, I2.tok _, ⟨_, by rw [hn]⟩, q1⟩
@[simp] def lenSetD (d : D) : Option D := (intsOf d).bind fun ns => if ns.length < 4000 then some (.int (firstMet (fun i => ns.getD i 0) ns.length).length) else none
theorem de_lenSet {p2 q : Pos} (hc : X.calm = true) (hm : X.mg "len" = none) (hm2 : X.mg "set" = none) (ha : DT X a ma) (hg : Gl X "len" := by rfl) (hg2 : Gl X "set" := by rfl) (na : starEach [a] X.env = (false, eval a X.env) :: starEach [] X.env := by rfl) :
    DE X (.Call (.Name "len" p) [.Call (.Name "set" p2) [a] [] q] [] pos) (mUn lenSetD ma) := ⟨_, pe_lenSetX hc hg hm hg2 hm2 ha.pe na, fun hid O B H σ E d re hm Q q => by
  obtain ⟨x, h1, hm⟩ := bind_some hm
  obtain ⟨ns, h2, hm⟩ := bind_some hm
  obtain ⟨h3, rfl⟩ := ite_some hm
  refine ha.si hid O B H σ E _ re h1 _ fun v H1 e1 r1 => ?_
  obtain ⟨p, rfl, h4⟩ := ints_tv r1 h2
  exact ⟨p, ns, rfl, h4, h3, q _ H1 e1 (.int _)⟩⟩
/-! isinstance of a built-in type -/
@[simp] def tyName : D → Option String
  | .non => some "NoneType"
  | .bl _ => some "bool"
  | .int _ => some "int"
  | .str _ => some "str"
  | .lst _ => some "list"
  | .tup _ => some "tuple"
  | .scr _ => some "list"
  | _ => none
theorem tyX_of {K : PySem.W.Frag} {hid O : AS} {H : Hp} {v : V} {d : D} {t : String} (rv : Tv K hid O H v d) (ht : tyName d = some t) : TyX K H v (.type t) := by
  cases d with
  | non => cases ht; rw [rv.non]; exact .base .non
  | bl b => cases ht; rw [rv.bl]; exact .base (.bl b)
  | int b => cases ht; rw [rv.int]; exact .base (.int b)
  | str b => cases ht; rw [rv.str]; exact .base (.str b)
  | dct _ _ => cases ht
  | obj _ _ _ => cases ht
  | err _ _ => cases ht
  | lst ds =>
    cases ht
    obtain ⟨p, xs, rfl, h1, h2⟩ := rv.lst
    exact .base (.lst h1)
  | tup ds =>
    cases ht
    obtain ⟨p, xs, rfl, h1, h2⟩ := rv.tup
    have h1' : SqT K H p xs := Evl.st_of (rem_some.mp h1).2
    rcases h1' with (h | ⟨o, h⟩) | ⟨o, its, n, h, hc, _⟩
    · exact .base (.tup h)
    · exact .fTuple h
    · exact .kTuple h hc
  | scr ns =>
    cases ht
    obtain ⟨p, rfl, h1⟩ := rv.scr
    rcases h1 with (h | ⟨o, h⟩) | ⟨o, its, n, h, hc, _⟩
    · exact .base (.lst h)
    · exact .base (.frz h)
    · exact .kList h hc
@[simp] def isiD (T : String) (d : D) : Option D := (tyName d).bind fun t => (kitB t T).map .bl
theorem de_isi {T : Str} {T' : String} {p2 : Pos} (hm : X.mg "isinstance" = none) (hm2 : X.mg T = none) (hv : bootBuiltins T = some (.type T')) (ha : DT X a ma) (hg : Gl X "isinstance" := by rfl) (hg2 : Gl X T := by rfl) (hn : T ≠ "__name__" := by decide) (hd : (T == ("__debug__" : Str)) = false := by decide)
    (hs : starEach [a, .Name T p2] X.env = (false, eval a X.env) :: starEach [.Name T p2] X.env := by rfl) (hs2 : starEach [.Name T p2] X.env = (false, eval (.Name T p2) X.env) :: starEach [] X.env := by rfl) (hpl : (backTo pos (starEach [.Name T p2] X.env)).any (·.1) = false := by rfl) :
    DE X (.Call (.Name "isinstance" p) [a, .Name T p2] [] pos) (mUn (isiD T') ma) := ⟨_, pe_callB call_isi hg hm (by decide +kernel) (pa_cons ha.pe (pa_cons (pe_bltn (v := .ty T') hg2 hm2 hv rfl hn hd) pa_nil hs2) hs) (by decide) (by decide) hs hpl, fun hid O B H σ E d re hm Q q => by
  obtain ⟨x, h1, hm⟩ := bind_some hm
  obtain ⟨ty, ht, hm⟩ := bind_some hm
  obtain ⟨b, h2, rfl⟩ := map_some hm
  refine ha.si hid O B H σ E _ re h1 _ fun v H1 e1 r1 => ?_
  exact ⟨v, .ty T', _, .type T', b, rfl, .ty T', tyX_of r1 ht, kit_ty h2, q _ H1 e1 (.bl b)⟩⟩
end

/-! ### own defs -/
def spD (K : PySem.W.Frag) (n : Nat) (m : List D → Option D) : Sp := fun vs H Q _ => ∃ (hid : AS) (ds : List D) (d : D), (∀ a, hid a → IsM H a) ∧ RpL K (rem hid H) vs ds ∧ ds.length = n ∧ m ds = some d ∧ ∀ v H', Ex H H' → Rp K (rem hid H') v d → Q v H'
structure Cal (P : Program) (w : World) (K : PySem.W.Frag) (mg : Str → Option Value) (base : Heap) (x : Str) (k n : Nat) (m : List D → Option D) : Prop where
  ex : ∃ (f : Addr) (fd : FuncData) (ps : List Str), mg x = some (.ref f) ∧ FnOk P w K mg base CX0 k f fd ps (spD K n m) ∧ PySem.W.keepIn K (.ref f) = true ∧ Binds K fd ps []
@[simp] def mCall (n : Nat) (m : List D → Option D) (a : En → Option (List D)) : En → Option D := fun E => (a E).bind fun ds => if ds.length = n then m ds else none
mutual
/-- no list within -/
def nolst : D → Bool
  | .lst _ => false
  | .scr _ => false
  | .tup ds => nolsts ds
  | .dct _ _ => false
  | .obj _ _ _ => false
  | .err _ _ => false
  | _ => true
def nolsts : List D → Bool
  | [] => true
  | d :: ds => nolst d && nolsts ds
end
section
variable {K : PySem.W.Frag} {H : Hp} {W : AS}
theorem rem_tup (hW : ∀ a, W a → IsM H a) {a : Addr} {xs : List V} (h : H a = some (.tup xs)) : rem W H a = some (.tup xs) := by
  refine rem_some.mpr ⟨fun z => ?_, h⟩
  obtain ⟨o2, e, mu⟩ := hW a z
  rw [h] at e
  cases e
  exact mu.elim
mutual
theorem nolst_rp (hW : ∀ a, W a → IsM H a) : ∀ (d : D) {v : V}, nolst d = true → Rp K H v d → Rp K (rem W H) v d
  | .non, _, _, h => by cases h; exact .non
  | .bl b, _, _, h => by cases h; exact .bl b
  | .int i, _, _, h => by cases h; exact .int i
  | .str x, _, _, h => by cases h; exact .str x
  | .lst ds, _, z, h => by
    rw [nolst] at z
    cases z
  | .tup ds, _, z, h => by
    rw [nolst] at z
    cases h with
    | tup h1 h2 => exact .tup (rem_tup hW h1) (nolsts_rp hW ds z h2)
  | .scr ns, _, z, h => by
    rw [nolst] at z
    cases z
theorem nolsts_rp (hW : ∀ a, W a → IsM H a) : ∀ (ds : List D) {vs : List V}, nolsts ds = true → RpL K H vs ds → RpL K (rem W H) vs ds
  | [], _, _, h => by cases h; exact .nil
  | d :: ds, _, z, h => by
    rw [nolsts] at z
    obtain ⟨z1, z2⟩ := Bool.and_eq_true_iff.mp z
    cases h with
    | cons h1 h2 => exact .cons (nolst_rp hW d z1 h1) (nolsts_rp hW ds z2 h2)
end
end
@[simp] def mCallT (n : Nat) (m : List D → Option D) (a : En → Option (List D)) : En → Option D := fun E => (a E).bind fun ds => if ds.length = n then (m ds).bind fun d => if nolst d = true then some d else none else none
section
variable {X : Cx} {x : Str} {k n : Nat} {m : List D → Option D} {e : Expr} {es : List Expr} {t : TA} {ma : En → Option (List D)} {p pos : Pos}
theorem de_call {P : Program} {w : World} {K : PySem.W.Frag} {mg : Str → Option Value} {base : Heap} {A : Around} (G : Cal P w K mg base x k n m) (hr : Room k A) (ha : DA X (e :: es) ma) (hA : X.A = A := by rfl) (hP : X.prog = P := by rfl) (hw : X.w = w := by rfl) (hK : X.K = K := by rfl) (hmg : X.mg = mg := by rfl) (hba : X.base = base := by rfl) (hg : Gl X x := by rfl) (hdb : (x == ("__debug__" : Str)) = false := by decide) (he : starEach (e :: es) X.env = (false, eval e X.env) :: starEach es X.env := by rfl) (hpl : (backTo pos (starEach es X.env)).any (·.1) = false := by rfl) :
    DE X (.Call (.Name x p) (e :: es) [] pos) (mCall n m ma) := by
  subst hA hP hw hK hmg hba
  obtain ⟨f, fd, ps, g1, g2, g3, g4⟩ := G.ex
  refine ⟨_, pe_call g2 hr hg g1 g3 g4 .nil pass0 ha.pa hdb he hpl, fun hid O B H σ E d re hm Q q => ?_⟩
  obtain ⟨ds, h1, hm⟩ := bind_some hm
  by_cases hl : ds.length = n
  · rw [if_pos hl] at hm
    refine ha.si hid O B H σ E ds re h1 _ fun vs H1 e1 r1 => ?_
    rw [List.append_nil]
    have re1 := re.grow e1
    refine ⟨orS hid O, ds, d, fun a z => ?_, r1, hl, hm, fun v H2 e2 r2 => q v H2 (e1.trans e2) r2⟩
    rcases z with z | z
    · exact (re1.hidd a z).mono re1.ex
    · exact (re1.own a z).2
  · rw [if_neg hl] at hm
    cases hm
theorem de_callT {P : Program} {w : World} {K : PySem.W.Frag} {mg : Str → Option Value} {base : Heap} {A : Around} (G : Cal P w K mg base x k n m) (hr : Room k A) (ha : DAT X (e :: es) ma) (hA : X.A = A := by rfl) (hP : X.prog = P := by rfl) (hw : X.w = w := by rfl) (hK : X.K = K := by rfl) (hmg : X.mg = mg := by rfl) (hba : X.base = base := by rfl) (hg : Gl X x := by rfl) (hdb : (x == ("__debug__" : Str)) = false := by decide) (he : starEach (e :: es) X.env = (false, eval e X.env) :: starEach es X.env := by rfl) (hpl : (backTo pos (starEach es X.env)).any (·.1) = false := by rfl) :
    DE X (.Call (.Name x p) (e :: es) [] pos) (mCallT n m ma) := by
  subst hA hP hw hK hmg hba
  obtain ⟨f, fd, ps, g1, g2, g3, g4⟩ := G.ex
  refine ⟨_, pe_call g2 hr hg g1 g3 g4 .nil pass0 ha.pa hdb he hpl, fun hid O B H σ E d re hm Q q => ?_⟩
  obtain ⟨ds, h1, hm⟩ := bind_some hm
  by_cases hl : ds.length = n
  · rw [if_pos hl] at hm
    obtain ⟨d', h2, hm⟩ := bind_some hm
    obtain ⟨h3, rfl⟩ := ite_some hm
    refine ha.si hid O B H σ E ds re h1 _ fun vs H1 e1 r1 => ?_
    rw [List.append_nil]
    refine ⟨noS, ds, d', fun a z => z.elim, r1.mono rem_no ds, hl, h2, fun v H2 e2 r2 => q v H2 (e1.trans e2) (nolst_rp (fun a z => ?_) _ h3 (r2.mono rem_ex _))⟩
    have re2 := (re.grow e1).grow e2
    rcases z with z | z
    · exact (re2.hidd a z).mono re2.ex
    · exact (re2.own a z).2
  · rw [if_neg hl] at hm
    cases hm
end
def callM (n N : Nat) (body : En → Option Out) : List D → Option D := fun ds => match body (ds.map Sl.fz ++ List.replicate (N - ds.length) Sl.un) with
  | some (.rt d) => some d
  | some (.rf ds) => some (.lst ds)
  | some (.nx _) => some .non
  | _ => none
def callF (n N : Nat) (body : En → Option Out) : List D → Option (List D) := fun ds => match body (ds.map Sl.fz ++ List.replicate (N - ds.length) Sl.un) with
  | some (.rf ds) => some ds
  | _ => none
def spF (K : PySem.W.Frag) (n : Nat) (m : List D → Option (List D)) : Sp := fun vs H Q _ => ∃ (hid : AS) (ds es : List D), (∀ a, hid a → IsM H a) ∧ RpL K (rem hid H) vs ds ∧ ds.length = n ∧ m ds = some es ∧
  ∀ p xs H', H p = none → Ex H H' → H' p = some (.lst xs) → RpL K (rem (orS hid (· = p)) H') xs es → Q (.ref p) H'
structure CalF (P : Program) (w : World) (K : PySem.W.Frag) (mg : Str → Option Value) (base : Heap) (x : Str) (k n : Nat) (m : List D → Option (List D)) : Prop where
  ex : ∃ (f : Addr) (fd : FuncData) (ps : List Str), mg x = some (.ref f) ∧ FnOk P w K mg base CX0 k f fd ps (spF K n m) ∧ PySem.W.keepIn K (.ref f) = true ∧ Binds K fd ps []
@[simp] def mCallF (n : Nat) (m : List D → Option (List D)) (a : En → Option (List D)) : En → Option (List D) := fun E => (a E).bind fun ds => if ds.length = n then m ds else none
theorem df_call {X : Cx} {x : Str} {k n : Nat} {m : List D → Option (List D)} {e : Expr} {es : List Expr} {ma : En → Option (List D)} {p pos : Pos} {P : Program} {w : World} {K : PySem.W.Frag} {mg : Str → Option Value} {base : Heap} {A : Around} (G : CalF P w K mg base x k n m) (hr : Room k A) (ha : DA X (e :: es) ma) (hA : X.A = A := by rfl) (hP : X.prog = P := by rfl) (hw : X.w = w := by rfl) (hK : X.K = K := by rfl) (hmg : X.mg = mg := by rfl) (hba : X.base = base := by rfl) (hg : Gl X x := by rfl) (hdb : (x == ("__debug__" : Str)) = false := by decide) (he : starEach (e :: es) X.env = (false, eval e X.env) :: starEach es X.env := by rfl) (hpl : (backTo pos (starEach es X.env)).any (·.1) = false := by rfl) :
    DF X (.Call (.Name x p) (e :: es) [] pos) (mCallF n m ma) := by
  subst hA hP hw hK hmg hba
  obtain ⟨f, fd, ps, g1, g2, g3, g4⟩ := G.ex
  refine ⟨_, pe_call g2 hr hg g1 g3 g4 .nil pass0 ha.pa hdb he hpl, fun hid O B H σ E d re hm Q q => ?_⟩
  obtain ⟨ds, h1, hm⟩ := bind_some hm
  by_cases hl : ds.length = n
  · rw [if_pos hl] at hm
    refine ha.si hid O B H σ E ds re h1 _ fun vs H1 e1 r1 => ?_
    rw [List.append_nil]
    have re1 := re.grow e1
    refine ⟨orS hid O, ds, d, fun a z => ?_, r1, hl, hm, fun p xs H2 hp e2 hx r2 => q p xs H2 (Evl.fresh_back e1 hp) (e1.trans e2) hx r2⟩
    rcases z with z | z
    · exact (re1.hidd a z).mono re1.ex
    · exact (re1.own a z).2
  · rw [if_neg hl] at hm
    cases hm
/-- a def of the text stands at x and its body does what m says -/
structure Stands (K : PySem.W.Frag) (mg : Str → Option Value) (x : Str) (st : Stmt) : Prop where
  ex : ∃ (f : Addr) (fd : FuncData), mg x = some (.ref f) ∧ FunD K x x (defArgs st) (defBody st) (defScope st) [] [] f fd
section
variable {P : Program} {w : World} {K : PySem.W.Frag} {mg : Str → Option Value} {base : Heap}
theorem fn_mk {x : Str} {st : Stmt} {N ps : List Str} {k n : Nat} {m : En → Option Out} {f : Addr} {fd : FuncData} (F : FunD K x x (defArgs st) (defBody st) (defScope st) [] [] f fd) (S : FnScope N ps (defScope st)) (hn : ps.length = n)
    (hbody : ∀ (cdv : Value) (A : Around) (outer : List Env) (s : Shared) (H : Hp) (E : XK), Room k (A.deeper (envOfC x (defScope st) s.heap.objs.size f cdv)) →
      DSs (cxOf CX0 P w K mg base N x (defScope st) f cdv A outer s H E).nox (defBody st) m) : FnOk P w K mg base CX0 (k + 1) f fd ps (spD K n (callM n N.length m)) := by
  refine F.ok S (fun vs H Q E h => ?_) (fun cdv A outer s H vs Q E hr h => ?_)
  · obtain ⟨hid, ds, d, _, h1, h2, _⟩ := h
    rw [h1.length, h2, hn]
  · obtain ⟨hid, ds, d, h0, h1, h2, h3, q⟩ := h
    have T := hbody cdv A outer s H E hr
    refine ⟨_, T.ps.nox, ?_⟩
    have r0 : RE K hid noS H H (start N vs) (ds.map Sl.fz ++ List.replicate (N.length - ds.length) Sl.un) := RE.start h0 h1
    unfold callM at h3
    split at h3
    · rename_i d' e
      cases h3
      exact T.si hid noS H H _ _ (.rt d) _ r0 e fun v H' ex rv => q v H' ex rv
    · rename_i es e
      cases h3
      exact T.si hid noS H H _ _ (.rf es) _ r0 e fun p xs H' hp ex hx rv => q _ H' ex (.lst (rem_some.mpr ⟨fun z => (by
        obtain ⟨o, z, _⟩ := h0 p z
        rw [hp] at z
        cases z), hx⟩) (rv.mono (rem_sub fun a z => .inl z) es))
    · rename_i E' e
      cases h3
      exact T.si hid noS H H _ _ (.nx E') _ r0 e fun O' σ' H' r' => q .non H' r'.ex .non
    · cases h3
theorem fnF_mk {x : Str} {st : Stmt} {N ps : List Str} {k n : Nat} {m : En → Option Out} {f : Addr} {fd : FuncData} (F : FunD K x x (defArgs st) (defBody st) (defScope st) [] [] f fd) (S : FnScope N ps (defScope st)) (hn : ps.length = n)
    (hbody : ∀ (cdv : Value) (A : Around) (outer : List Env) (s : Shared) (H : Hp) (E : XK), Room k (A.deeper (envOfC x (defScope st) s.heap.objs.size f cdv)) →
      DSs (cxOf CX0 P w K mg base N x (defScope st) f cdv A outer s H E).nox (defBody st) m) : FnOk P w K mg base CX0 (k + 1) f fd ps (spF K n (callF n N.length m)) := by
  refine F.ok S (fun vs H Q E h => ?_) (fun cdv A outer s H vs Q E hr h => ?_)
  · obtain ⟨hid, ds, d, _, h1, h2, _⟩ := h
    rw [h1.length, h2, hn]
  · obtain ⟨hid, ds, es, h0, h1, h2, h3, q⟩ := h
    have T := hbody cdv A outer s H E hr
    refine ⟨_, T.ps.nox, ?_⟩
    have r0 : RE K hid noS H H (start N vs) (ds.map Sl.fz ++ List.replicate (N.length - ds.length) Sl.un) := RE.start h0 h1
    unfold callF at h3
    split at h3
    · rename_i es' e
      cases h3
      exact T.si hid noS H H _ _ (.rf es) _ r0 e fun p xs H' hp ex hx rv => q p xs H' hp ex hx rv
    · cases h3
theorem calF_of {x : Str} {st : Stmt} {ps : List Str} {k n : Nat} {m : List D → Option (List D)} (F : Stands K mg x st)
    (hb : ∀ (kV doc pm : Value) (an : Option Addr) (cdv ct : Value) (us : List Value), us.length = ps.length → bindArgs (PySem.W.fnOf x x (defArgs st) (defBody st) (defScope st) .none kV doc pm an cdv ct) ⟨us, []⟩ = pure (ps.zip us))
    (h : ∀ {f : Addr} {fd : FuncData}, FunD K x x (defArgs st) (defBody st) (defScope st) [] [] f fd → FnOk P w K mg base CX0 k f fd ps (spF K n m)) : CalF P w K mg base x k n m := by
  obtain ⟨f, fd, g, F⟩ := F.ex
  obtain ⟨oc, od, dV, kV, doc, pm, an, cdv, ct, osl, e, lk, hcd, hd, hk⟩ := F.ex
  have F' := F
  refine ⟨f, fd, ps, g, h F, F.kp, ?_⟩
  subst e
  rcases hd with ⟨_, rfl⟩ | ⟨z, _⟩
  · exact .all (hb kV doc pm an cdv ct)
  · exact absurd rfl z
theorem fun_binds {x : Str} {st : Stmt} {ps : List Str} {f : Addr} {fd : FuncData} (F : FunD K x x (defArgs st) (defBody st) (defScope st) [] [] f fd)
    (hb : ∀ (kV doc pm : Value) (an : Option Addr) (cdv ct : Value) (us : List Value), us.length = ps.length → bindArgs (PySem.W.fnOf x x (defArgs st) (defBody st) (defScope st) .none kV doc pm an cdv ct) ⟨us, []⟩ = pure (ps.zip us)) : Binds K fd ps [] := by
  obtain ⟨oc, od, dV, kV, doc, pm, an, cdv, ct, osl, rfl, lk, hcd, hd, _⟩ := F.ex
  rcases hd with ⟨_, rfl⟩ | ⟨z, _⟩
  · exact .all (hb kV doc pm an cdv ct)
  · exact absurd rfl z
theorem cal_of {x : Str} {st : Stmt} {ps : List Str} {k n : Nat} {m : List D → Option D} (F : Stands K mg x st)
    (hb : ∀ (kV doc pm : Value) (an : Option Addr) (cdv ct : Value) (us : List Value), us.length = ps.length → bindArgs (PySem.W.fnOf x x (defArgs st) (defBody st) (defScope st) .none kV doc pm an cdv ct) ⟨us, []⟩ = pure (ps.zip us))
    (h : ∀ {f : Addr} {fd : FuncData}, FunD K x x (defArgs st) (defBody st) (defScope st) [] [] f fd → FnOk P w K mg base CX0 k f fd ps (spD K n m)) : Cal P w K mg base x k n m := by
  obtain ⟨f, fd, g, F⟩ := F.ex
  exact ⟨f, fd, ps, g, h F, F.kp, fun_binds F hb⟩
end

/-! ### lists changed in place -/
section
variable {X : Cx} {e e2 : Expr} {te te2 : TE} {m m2 : En → Option D} {x : Str} {p apos cpos pos : Pos}
theorem up_set {E : En} {i : Nat} {s t : Sl} : (E.set i s).set i t = E.set i t := List.set_set ..
@[simp] def mApp (i : Nat) (m : En → Option D) : En → Option Out := fun E => (m E).bind fun d => match E[i]? with
  | some (.ow ds) => if ds.length < 100000 then some (.nx (E.set i (.ow (ds ++ [d])))) else none
  | _ => none
theorem ow_of {E : En} {i : Nat} {d : D} {o : Out} {f : List D → Option Out} (h : (match E[i]? with
  | some (.ow ds) => f ds
  | _ => none) = some o) : ∃ ds, E[i]? = some (.ow ds) ∧ f ds = some o := by
  split at h
  · exact ⟨_, ‹_›, h⟩
  · cases h
theorem ds_app (i : Nat) (he : DE X e m) (hN : X.N[i]? = some x := by rfl) (hv : Vis X.env.scope x := by first | exact Or.inl rfl | exact Or.inr (Or.inl rfl) | exact Or.inr (Or.inr rfl)) (hd : (x == ("__debug__" : Str)) = false := by decide) (hcd : (x == ("__classdict__" : Str)) = false := by decide)
    (hbase : attributeBase (.Name x p) "append" X.env (eval (.Name x p) X.env) = eval (.Name x p) X.env := by rfl)
    (hfew : ((backTo cpos (starEach [e] X.env)).all (fun x => !x.1) && (backToKw cpos (keywordEach [] X.env)).all (fun x => x.1.isSome)
      && decide ([e].length + ([] : List Keyword).length + (if ([] : List Keyword).isEmpty then 0 else 1) < 30)) = true := by rfl)
    (hline : (apos.endLine == cpos.line) = true := by rfl) (hs : starEach [e] X.env = (false, eval e X.env) :: starEach [] X.env := by rfl) (hplain : (backTo cpos (starEach [] X.env)).any (·.1) = false := by rfl)
    (hsw : swapsWith (.Call (.Attribute (.Name x p) "append" apos) [e] [] cpos) none pos.line X.env = pure false := by rfl) :
    DS X (.Expr (.Call (.Attribute (.Name x p) "append" apos) [e] [] cpos) pos) (mApp i m) :=
  ⟨_, ps_expr (pe_bm PySem.F.plainAttrs_list PySem.F.slot_list_append PySem.F.type_list_append mt_append (pe_var hN hv hd hcd) (pa_cons he.pe pa_nil hs) hbase hfew hline hs hplain) hsw, fun hid O B H σ E o Dn r hm k => by
  obtain ⟨d, h1, hm⟩ := bind_some hm
  obtain ⟨ds, h2, hm⟩ := ow_of (d := d) hm
  obtain ⟨h3, rfl⟩ := ite_some hm
  obtain ⟨q, xs, g1, g2, g3, g4⟩ := r.ow i ds h2
  refine ⟨.ref q, g1, .inl ⟨rfl, xs, .inl (.inl g3)⟩, ?_⟩
  refine he.si hid O B H σ E d r h1 _ fun v H1 e1 r1 => ?_
  refine ⟨q, xs, v, rfl, rfl, e1 q _ g3, by rw [g4.length]; exact size_lt h3, ?_⟩
  exact k O σ _ ((r.grow e1).chg h2 g1 ((g4.mono (rem_mono e1) _).app (.one r1)))⟩
@[simp] def insD (ds : List D) (i : Int) (d : D) : Option (List D) := if ds.length < 100000 ∧ 0 ≤ i ∧ i < 100000 then some (ds.take i.toNat ++ [d] ++ ds.drop i.toNat) else none
@[simp] def mIns (i : Nat) (mk m : En → Option D) : En → Option Out := fun E => (mk E).bind fun k => (m E).bind fun d => match E[i]? with
  | some (.ow ds) => (match k with
    | .int j => (insD ds j d).map fun es => .nx (E.set i (.ow es))
    | _ => none)
  | _ => none
theorem ds_ins (i : Nat) (hk : DE X e2 m2) (he : DE X e m) (hN : X.N[i]? = some x := by rfl) (hv : Vis X.env.scope x := by first | exact Or.inl rfl | exact Or.inr (Or.inl rfl) | exact Or.inr (Or.inr rfl)) (hd : (x == ("__debug__" : Str)) = false := by decide) (hcd : (x == ("__classdict__" : Str)) = false := by decide)
    (hbase : attributeBase (.Name x p) "insert" X.env (eval (.Name x p) X.env) = eval (.Name x p) X.env := by rfl)
    (hfew : ((backTo cpos (starEach [e2, e] X.env)).all (fun x => !x.1) && (backToKw cpos (keywordEach [] X.env)).all (fun x => x.1.isSome)
      && decide ([e2, e].length + ([] : List Keyword).length + (if ([] : List Keyword).isEmpty then 0 else 1) < 30)) = true := by rfl)
    (hline : (apos.endLine == cpos.line) = true := by rfl) (hs : starEach [e2, e] X.env = (false, eval e2 X.env) :: starEach [e] X.env := by rfl) (hs2 : starEach [e] X.env = (false, eval e X.env) :: starEach [] X.env := by rfl) (hplain : (backTo cpos (starEach [e] X.env)).any (·.1) = false := by rfl)
    (hsw : swapsWith (.Call (.Attribute (.Name x p) "insert" apos) [e2, e] [] cpos) none pos.line X.env = pure false := by rfl) :
    DS X (.Expr (.Call (.Attribute (.Name x p) "insert" apos) [e2, e] [] cpos) pos) (mIns i m2 m) :=
  ⟨_, ps_expr (pe_bm PySem.F.plainAttrs_list PySem.F.slot_list_insert PySem.F.type_list_insert mt_insert (pe_var hN hv hd hcd) (pa_cons hk.pe (pa_cons he.pe pa_nil hs2) hs) hbase hfew hline hs hplain) hsw, fun hid O B H σ E o Dn r hm k => by
  obtain ⟨kk, h0, hm⟩ := bind_some hm
  obtain ⟨d, h1, hm⟩ := bind_some hm
  obtain ⟨ds, h2, hm⟩ := ow_of (d := d) hm
  obtain ⟨q, xs, g1, g2, g3, g4⟩ := r.ow i ds h2
  refine ⟨.ref q, g1, .inl ⟨rfl, xs, .inl (.inl g3)⟩, ?_⟩
  refine hk.si hid O B H σ E kk r h0 _ fun u H1 e1 r1 => ?_
  refine he.si hid O B H1 σ E d (r.grow e1) h1 _ fun v H2 e2 r2 => ?_
  split at hm
  · obtain ⟨es, h3, rfl⟩ := map_some hm
    unfold insD at h3
    obtain ⟨⟨h4, h5, h6⟩, rfl⟩ := ite_some h3
    cases r1
    have e12 := e1.trans e2
    have g4' := g4.mono (rem_mono e12) _
    refine ⟨q, xs, _, v, rfl, rfl, e12 q _ g3, by rw [g4.length]; exact size_lt h4, h5, by omega, ?_⟩
    exact k O σ _ ((r.grow e12).chg h2 g1 (((g4'.take _).app (.one r2)).app (g4'.drop _)))
  · cases hm⟩
/-- x[k] = e -/
@[simp] def mSub (i : Nat) (m mk : En → Option D) : En → Option Out := fun E => (m E).bind fun d => (mk E).bind fun k => match E[i]? with
  | some (.ow ds) => (match k with
    | .int j => (ixN ds.length j).map fun n => .nx (E.set i (.ow (ds.set n d)))
    | _ => none)
  | _ => none
theorem ds_sub (i : Nat) {spos : Pos} (he : DE X e m) (hk : DE X e2 m2) (hN : X.N[i]? = some x := by rfl) (hv : Vis X.env.scope x := by first | exact Or.inl rfl | exact Or.inr (Or.inl rfl) | exact Or.inr (Or.inr rfl)) (hd : (x == ("__debug__" : Str)) = false := by decide) (hcd : (x == ("__classdict__" : Str)) = false := by decide)
    (ha : ∀ v, assign (.Subscript (.Name x p) e2 spos) X.env v = (do
      let ov ← holding [v] (eval (.Name x p) X.env)
      let iv ← holding [v, ov] (eval e2 X.env)
      standAt spos
      holding [v, ov, iv] (setItem ov iv v)
      release [v, ov, iv] []) := by intro _; rfl)
    (hs : swapsWithSole [.Subscript (.Name x p) e2 spos] e pos.line X.env = pure false := by rfl) (hw : swappedStores [.Subscript (.Name x p) e2 spos] e X.env = pure none := by rfl)
    (h1 : (assignEach [.Subscript (.Name x p) e2 spos] X.env).map (·.2) = [assign (.Subscript (.Name x p) e2 spos) X.env] := by rfl) :
    DS X (.Assign [.Subscript (.Name x p) e2 spos] e pos) (mSub i m m2) :=
  ⟨_, ps_asg he.pe (pg_sub (pe_var hN hv hd hcd) hk.pe set_list ha) hs hw h1, fun hid O B H σ E o Dn r hm k => by
  obtain ⟨d, h0, hm⟩ := bind_some hm
  obtain ⟨kk, h1, hm⟩ := bind_some hm
  obtain ⟨ds, h2, hm⟩ := ow_of (d := d) hm
  obtain ⟨q, xs, g1, g2, g3, g4⟩ := r.ow i ds h2
  refine he.si hid O B H σ E d r h0 _ fun v H1 e1 r1 => ?_
  refine ⟨.ref q, g1, ?_⟩
  refine hk.si hid O B H1 σ E kk (r.grow e1) h1 _ fun u H2 e2 r2 => ?_
  split at hm
  · obtain ⟨n, h3, rfl⟩ := map_some hm
    cases r2
    have e12 := e1.trans e2
    refine ⟨q, xs, _, n, rfl, rfl, e12 q _ g3, by rw [g4.length]; exact h3, ?_⟩
    exact k O σ _ ((r.grow e12).chg h2 g1 ((g4.mono (rem_mono e12) _).set (r1.mono (rem_mono e2) _) n))
  · cases hm⟩
/-- x = [.. for ..] -/
theorem ds_setLc (i : Nat) {y : Str} {py : Pos} {elt tg iter : Expr} {ifs : List Expr} {scope : Scope} {own : List (Str × Nat)} {spos : Pos} {js : List Nat} {mi : En → Option (List D)} {mg : En → D → Option En} {mt : En → Option Bool} {me : En → Option D}
    (hc : X.calm = true) (hN : X.N.Nodup) (hi : DIT X tg iter mi) (ok : BlkOk X.N X.env.scope scope own) (hjs : ∀ j ∈ js, j ∈ own.map (·.2))
    (hg : ∀ (s : Shared) (H : Hp) (C : Addr) (cl : List (Str × Addr)) (fp : List Addr), DG (X.blk s H scope (compEnvC scope cl C X.env) fp) tg js mg) (ht : ∀ (s : Shared) (H : Hp) (C : Addr) (cl : List (Str × Addr)) (fp : List Addr), DTs (X.blk s H scope (compEnvC scope cl C X.env) fp) ifs mt)
    (he : ∀ (s : Shared) (H : Hp) (C : Addr) (cl : List (Str × Addr)) (fp : List Addr), DE (X.blk s H scope (compEnvC scope cl C X.env) fp) elt me)
    (hsw : swapsWith (.ListComp elt [⟨tg, iter, ifs, 0⟩] scope pos) (some (.Name y py)) spos.line X.env = pure true) (hy : X.N[i]? = some y := by rfl) (hyl : X.env.scope.names.lookup y = some .local := by rfl) (hs : ∀ x, foldedSetIterable iter X.env x = pure x := by intro _; rfl) :
    DS X (.Assign [.Name y py] (.ListComp elt [⟨tg, iter, ifs, 0⟩] scope pos) spos) (mSetO i (mComp (own.map (·.2)) mi mg mt me)) :=
  ⟨_, ps_setLc (wi := tITq X.K mi) (g := tGq X.K js mg) (tt := tBq X.K mt) (te := tE X.K me) hc hN hy hyl hsw hi.pi ok (fun s H C cl fp => (hg s H C cl fp).pg) (fun s H C cl fp => (ht s H C cl fp).pt) (fun s H C cl fp => (he s H C cl fp).pe) hs,
    ss_setO i (sf_lc hi.si (hg X.s_0 X.H_0 0 [] []).si hjs (ht X.s_0 X.H_0 0 [] []).si (he X.s_0 X.H_0 0 [] []).si)⟩
/-- .. x not changed later -/
theorem ss_setF {K : PySem.W.Frag} (i : Nat) {te : TE} {m : En → Option (List D)} (h : SF K te m) : SS K (tAsg te (gName i)) (mSet i (mList m)) := fun hid O B H σ E o Dn r hm k => by
  obtain ⟨d, h1, rfl⟩ := map_some hm
  obtain ⟨ds, h2, rfl⟩ := map_some h1
  exact h hid O B H σ E ds r h2 _ fun p xs H1 hp e1 hx r1 => k _ _ H1 ((r.grow e1).put i (.lst (vis_new (r.fresh hp) hx) (r1.mono (rem_sub fun a z => .inl z) ds)))
theorem ds_setLcF (i : Nat) {y : Str} {py : Pos} {elt tg iter : Expr} {ifs : List Expr} {scope : Scope} {own : List (Str × Nat)} {pos spos : Pos} {js : List Nat} {mi : En → Option (List D)} {mg : En → D → Option En} {mt : En → Option Bool} {me : En → Option D}
    (hc : X.calm = true) (hN : X.N.Nodup) (hi : DIT X tg iter mi) (ok : BlkOk X.N X.env.scope scope own) (hjs : ∀ j ∈ js, j ∈ own.map (·.2))
    (hg : ∀ (s : Shared) (H : Hp) (C : Addr) (cl : List (Str × Addr)) (fp : List Addr), DG (X.blk s H scope (compEnvC scope cl C X.env) fp) tg js mg) (ht : ∀ (s : Shared) (H : Hp) (C : Addr) (cl : List (Str × Addr)) (fp : List Addr), DTs (X.blk s H scope (compEnvC scope cl C X.env) fp) ifs mt)
    (he : ∀ (s : Shared) (H : Hp) (C : Addr) (cl : List (Str × Addr)) (fp : List Addr), DE (X.blk s H scope (compEnvC scope cl C X.env) fp) elt me)
    (hsw : swapsWith (.ListComp elt [⟨tg, iter, ifs, 0⟩] scope pos) (some (.Name y py)) spos.line X.env = pure true) (hy : X.N[i]? = some y := by rfl) (hyl : X.env.scope.names.lookup y = some .local := by rfl) (hs : ∀ x, foldedSetIterable iter X.env x = pure x := by intro _; rfl) :
    DS X (.Assign [.Name y py] (.ListComp elt [⟨tg, iter, ifs, 0⟩] scope pos) spos) (mSet i (mList (mComp (own.map (·.2)) mi mg mt me))) :=
  ⟨_, ps_setLc (wi := tITq X.K mi) (g := tGq X.K js mg) (tt := tBq X.K mt) (te := tE X.K me) hc hN hy hyl hsw hi.pi ok (fun s H C cl fp => (hg s H C cl fp).pg) (fun s H C cl fp => (ht s H C cl fp).pt) (fun s H C cl fp => (he s H C cl fp).pe) hs,
    ss_setF i (sf_lc hi.si (hg X.s_0 X.H_0 0 [] []).si hjs (ht X.s_0 X.H_0 0 [] []).si (he X.s_0 X.H_0 0 [] []).si)⟩
end
end Sx

set_option Elab.async false
set_option linter.all false
set_option maxRecDepth 100000
set_option maxHeartbeats 1000000
namespace Sx
open PySem PySem.Spec PyProof.Rows L2
open Evl (Ex)

/-! ### enumerate -/
def enumD : Nat → List D → List D
  | _, [] => []
  | n, d :: ds => .tup [.int (n : Int), d] :: enumD (n + 1) ds
theorem enumD_len : ∀ (ds : List D) (n : Nat), (enumD n ds).length = ds.length
  | [], _ => rfl
  | _ :: ds, n => congrArg Nat.succ (enumD_len ds (n + 1))
theorem enumD_get : ∀ (ds : List D) (n i : Nat), (enumD n ds)[i]? = (ds[i]?).map fun d => .tup [.int ((n + i : Nat) : Int), d]
  | [], _, i => by simp [enumD]
  | d :: ds, n, 0 => by simp [enumD]
  | d :: ds, n, i + 1 => by
    have := enumD_get ds (n + 1) i
    simp only [enumD, List.getElem?_cons_succ]
    rw [this]
    have e : n + 1 + i = n + (i + 1) := by omega
    rw [e]
theorem Yd.enum {K : PySem.W.Frag} {W : AS} {H2 : Hp} {xs : List V} {ds : List D} (h : RpL K (rem W H2) xs ds) : Yd K W H2 (enumD 0 ds) (YPair (fun i => some (.int (i : Nat))) (fun i => xs[i]?)) := fun i H1 x H1' W' d y hd e hn => by
  obtain ⟨T, a, b, rfl, hT, rfl, ha, hb⟩ := y
  rw [enumD_get] at hd
  obtain ⟨di, hdi, rfl⟩ := map_some hd
  obtain ⟨v, h1, h2⟩ := h.get hdi
  have hb' : xs[i]? = some b := hb
  rw [h1] at hb'
  cases hb'
  have ha' : some (V.int (i : Nat)) = some a := ha
  cases ha'
  have ex : Ex H1 (upd H1 T (.tup [.int (i : Nat), b])) := Ex.new hT
  refine ⟨ex, .tup (rem_some.mpr ⟨hn T hT, upd_same⟩) (.cons ?_ (.cons ((h2.mono e di).mono (rem_mono ex) di) .nil))⟩
  rw [Nat.zero_add]
  exact .int _
section
variable {X : Cx} {e : Expr} {m : En → Option D} {p pos tpos : Pos} {elts : List Expr} {kk : Nat}
@[simp] def mEnum (m : En → Option D) : En → Option (List D) := fun E => ((m E).bind lstOf).map (enumD 0)
theorem di_enum (hm : X.mg "enumerate" = none) (h : DE X e m) (hg : Gl X "enumerate" := by rfl) (hs1 : starEach [e] X.env = (false, eval e X.env) :: starEach [] X.env := by rfl) (hs : starEach [e] X.env = [(false, eval e X.env)] := by rfl) :
    DI X (.Tuple elts kk tpos) (.Call (.Name "enumerate" p) [e] [] pos) (mEnum m) := ⟨_, pi_enum hg hm (pa_cons h.pe pa_nil hs1) hs, fun hid O B H σ E ds r hm R k => by
  obtain ⟨es, h1, rfl⟩ := map_some hm
  obtain ⟨x, h2, h3⟩ := bind_some h1
  refine h.si hid O B H σ E x r h2 _ fun v H1 e1 r1 => ?_
  rcases lstOf_some h3 with rfl | ⟨ns, rfl, rfl⟩
  · cases r1 with
    | @lst a xs _ g1 g2 =>
      refine ⟨a, xs, rfl, .inl (.inl (rem_some.mp g1).2), ?_⟩
      have w := walk_enum (K := X.K) (a := a) (xs := xs)
      rw [g2.length, ← enumD_len es 0] at w
      exact k _ H1 _ _ e1 w (fun H' z => .inl (.inl (z a _ g1))) (Yd.enum g2)
  · cases r1 with
    | @scr a _ g1 =>
      refine ⟨a, _, rfl, Evl.ex_l rem_ex g1, ?_⟩
      have w := walk_enum (K := X.K) (a := a) (xs := ns.map V.int)
      rw [List.length_map, ← List.length_map (f := D.int), ← enumD_len (ns.map D.int) 0] at w
      exact k _ H1 _ _ e1 w (fun H' z => Evl.ex_l z g1) (Yd.enum (RpL.ints ns))⟩
theorem dit_enum (hm : X.mg "enumerate" = none) (h : DT X e m) (hg : Gl X "enumerate" := by rfl) (hs1 : starEach [e] X.env = (false, eval e X.env) :: starEach [] X.env := by rfl) (hs : starEach [e] X.env = [(false, eval e X.env)] := by rfl) :
    DIT X (.Tuple elts kk tpos) (.Call (.Name "enumerate" p) [e] [] pos) (mEnum m) := ⟨_, pi_enum hg hm (pa_cons h.pe pa_nil hs1) hs, fun hid O B H σ E ds r hm R k => by
  obtain ⟨es, h1, rfl⟩ := map_some hm
  obtain ⟨x, h2, h3⟩ := bind_some h1
  refine h.si hid O B H σ E x r h2 _ fun v H1 e1 r1 => ?_
  rcases lstOf_some h3 with rfl | ⟨ns, rfl, rfl⟩
  · obtain ⟨a, xs, rfl, g1, g2⟩ := r1.lst
    refine ⟨a, xs, rfl, .inl (.inl g1), ?_⟩
    have w := walk_enum (K := X.K) (a := a) (xs := xs)
    rw [g2.length, ← enumD_len es 0] at w
    exact k _ H1 _ _ e1 w (fun H' z => .inl (.inl (z a _ g1))) (Yd.enum g2)
  · obtain ⟨a, rfl, g1⟩ := r1.scr
    refine ⟨a, _, rfl, g1, ?_⟩
    have w := walk_enum (K := X.K) (a := a) (xs := ns.map V.int)
    rw [List.length_map, ← List.length_map (f := D.int), ← enumD_len (ns.map D.int) 0] at w
    exact k _ H1 _ _ e1 w (fun H' z => Evl.ex_l z g1) (Yd.enum (RpL.ints ns))⟩
end

/-! ### flat items -/
def allStrs : List D → Option (List Str)
  | [] => some []
  | .str z :: ds => (allStrs ds).map (z :: ·)
  | _ :: _ => none
theorem allStrs_some : ∀ {ds : List D} {ns : List Str}, allStrs ds = some ns → ds = ns.map .str
  | [], _, h => by cases h; rfl
  | d :: ds, ns, h => by
    cases d with
    | str z =>
      obtain ⟨zs, h1, rfl⟩ := map_some (show (allStrs ds).map (z :: ·) = some ns from h)
      rw [allStrs_some h1]
      rfl
    | _ => cases h
theorem allStrs_map : ∀ (ns : List Str), allStrs (ns.map .str) = some ns
  | [] => rfl
  | n :: ns => by
    show (allStrs (ns.map .str)).map (n :: ·) = _
    rw [allStrs_map ns]
    rfl
def allBls : List D → Option (List Bool)
  | [] => some []
  | .bl z :: ds => (allBls ds).map (z :: ·)
  | _ :: _ => none
theorem allBls_some : ∀ {ds : List D} {ns : List Bool}, allBls ds = some ns → ds = ns.map .bl
  | [], _, h => by cases h; rfl
  | d :: ds, ns, h => by
    cases d with
    | bl z =>
      obtain ⟨zs, h1, rfl⟩ := map_some (show (allBls ds).map (z :: ·) = some ns from h)
      rw [allBls_some h1]
      rfl
    | _ => cases h
theorem allBls_map : ∀ (ns : List Bool), allBls (ns.map .bl) = some ns
  | [] => rfl
  | n :: ns => by
    show (allBls (ns.map .bl)).map (n :: ·) = _
    rw [allBls_map ns]
    rfl
section
variable {K : PySem.W.Frag} {H : Hp}
theorem RpL.strs_of : ∀ {ns : List Str} {vs : List V}, RpL K H vs (ns.map D.str) → vs = ns.map V.str
  | [], _, h => by cases h; rfl
  | n :: ns, _, h => by
    cases h with
    | cons h1 h2 =>
      cases h1
      rw [RpL.strs_of h2]
      rfl
theorem RpL.bls_of : ∀ {ns : List Bool} {vs : List V}, RpL K H vs (ns.map D.bl) → vs = ns.map V.bl
  | [], _, h => by cases h; rfl
  | n :: ns, _, h => by
    cases h with
    | cons h1 h2 =>
      cases h1
      rw [RpL.bls_of h2]
      rfl
end
theorem Tv.seq2 {K : PySem.W.Frag} {hid O : AS} {H : Hp} {v : V} {x : D} {ds : List D} (rv : Tv K hid O H v x) (h : seqOf x = some ds) : ∃ p xs, v = .ref p ∧ (SqL K H p xs ∨ SqT K H p xs) ∧ ∃ W, RpL K (rem W H) xs ds := by
  unfold seqOf at h
  split at h
  · cases h
    obtain ⟨p, xs, rfl, h1, h2⟩ := rv.seq
    exact ⟨p, xs, rfl, .inl h1, _, h2⟩
  · cases h
    obtain ⟨p, xs, rfl, h1, h2⟩ := rv.tup
    exact ⟨p, xs, rfl, .inr (Evl.st_of (rem_some.mp h1).2), _, h2⟩
  · cases h
    obtain ⟨p, rfl, h1⟩ := rv.scr
    exact ⟨p, _, rfl, .inl h1, noS, RpL.ints _⟩
  · cases h
@[simp] def inD : D → D → Option D
  | .str z, c => ((seqOf c).bind allStrs).map fun ss => .bl (ss.contains z)
  | .int z, c => ((seqOf c).bind allInts).map fun ss => .bl (ss.contains z)
  | _, _ => none
@[simp] def notInD (x c : D) : Option D := (inD x c).map fun d => match d with
  | .bl b => .bl (!b)
  | d => d
theorem inV_str (z : Str) : ∀ ss : List Str, inV (.str z) (ss.map V.str) = ss.contains z
  | [] => rfl
  | s :: ss => by
    have ih := inV_str z ss
    unfold inV at ih ⊢
    rw [List.map_cons, List.any_cons, ih, List.contains_cons]
    congr 1
    show (s == z) = (z == s)
    exact Bool.beq_comm
theorem inV_int (z : Int) : ∀ ss : List Int, inV (.int z) (ss.map V.int) = ss.contains z
  | [] => rfl
  | s :: ss => by
    have ih := inV_int z ss
    unfold inV at ih ⊢
    rw [List.map_cons, List.any_cons, ih, List.contains_cons]
    congr 1
    show (s == z) = (z == s)
    exact Bool.beq_comm
theorem flat_strs (ss : List Str) : (ss.map V.str).all flatV = true := by
  rw [List.all_map, List.all_eq_true]
  intro x _
  rfl
theorem flat_ints (ss : List Int) : (ss.map V.int).all flatV = true := by
  rw [List.all_map, List.all_eq_true]
  intro x _
  rfl
theorem in_facts {K : PySem.W.Frag} {hid O : AS} {H : Hp} {x y : V} {a c d : D} (ra : Tv K hid O H x a) (rc : Tv K hid O H y c) (h : inD a c = some d) :
    ∃ p xs b, y = .ref p ∧ (SqL K H p xs ∨ SqT K H p xs) ∧ flatV x = true ∧ xs.all flatV = true ∧ inV x xs = b ∧ d = .bl b := by
  unfold inD at h
  split at h
  · obtain ⟨ss, h1, rfl⟩ := map_some h
    obtain ⟨ds, h2, h3⟩ := bind_some h1
    obtain ⟨p, xs, rfl, h4, W, h5⟩ := rc.seq2 h2
    rw [allStrs_some h3] at h5
    rw [RpL.strs_of h5] at h4
    obtain rfl := ra.str
    exact ⟨p, _, _, rfl, h4, rfl, flat_strs ss, inV_str _ ss, rfl⟩
  · obtain ⟨ss, h1, rfl⟩ := map_some h
    obtain ⟨ds, h2, h3⟩ := bind_some h1
    obtain ⟨p, xs, rfl, h4, W, h5⟩ := rc.seq2 h2
    rw [allInts_some h3] at h5
    rw [RpL.ints_of h5] at h4
    obtain rfl := ra.int
    exact ⟨p, _, _, rfl, h4, rfl, flat_ints ss, inV_int _ ss, rfl⟩
  · cases h
theorem od_in {K : PySem.W.Frag} : OD K (rIn K false) inD := fun hid O H x y a b d al ra rb hm Q q => by
  obtain ⟨p, xs, k, rfl, h1, h2, h3, h4, rfl⟩ := in_facts ra rb hm
  refine ⟨p, xs, rfl, h1, h2, h3, ?_⟩
  rw [if_neg Bool.false_ne_true, h4]
  exact q _ H (Ex.refl H) (.bl _)
theorem od_notIn {K : PySem.W.Frag} : OD K (rIn K true) notInD := fun hid O H x y a b d al ra rb hm Q q => by
  obtain ⟨d', h0, rfl⟩ := map_some hm
  obtain ⟨p, xs, k, rfl, h1, h2, h3, h4, rfl⟩ := in_facts ra rb h0
  refine ⟨p, xs, rfl, h1, h2, h3, ?_⟩
  rw [if_pos rfl, h4]
  exact q _ H (Ex.refl H) (.bl _)
section
variable {X : Cx} {a b : Expr} {ta tb : TE} {ma mb : En → Option D} {p pos : Pos}
/-- any(x) of a list of truth values -/
@[simp] def anyD (d : D) : Option D := ((seqOf d).bind allBls).map fun bs => .bl (bs.any id)
@[simp] def lstOnly : D → Option (List D)
  | .lst ds => some ds
  | _ => none
@[simp] def anyLD (d : D) : Option D := ((lstOnly d).bind allBls).map fun bs => .bl (bs.any id)
@[simp] def allLD (d : D) : Option D := ((lstOnly d).bind allBls).map fun bs => .bl (bs.all id)
theorem lstOnly_some {d : D} {ds : List D} (h : lstOnly d = some ds) : d = .lst ds := by
  unfold lstOnly at h
  split at h
  · cases h
    rfl
  · cases h
theorem bls_tv {K : PySem.W.Frag} {hid O : AS} {H : Hp} {v : V} {x : D} {bs : List Bool} (rv : Tv K hid O H v x) (h : (lstOnly x).bind allBls = some bs) : ∃ p, v = .ref p ∧ SqL K H p (bs.map V.bl) := by
  obtain ⟨ds, h1, h2⟩ := bind_some h
  obtain rfl := lstOnly_some h1
  obtain ⟨p, xs, rfl, h3, h4⟩ := rv.seq
  rw [allBls_some h2] at h4
  rw [RpL.bls_of h4] at h3
  exact ⟨p, rfl, h3⟩
theorem de_any (hc : X.calm = true) (hm : X.mg "any" = none) (ha : DT X a ma) (hg : Gl X "any" := by rfl) (hs : starEach [a] X.env = (false, eval a X.env) :: starEach [] X.env := by rfl) (hpl : (backTo pos (starEach [] X.env)).any (·.1) = false := by rfl) :
    DE X (.Call (.Name "any" p) [a] [] pos) (mUn anyLD ma) := ⟨_, pe_callB (cr_any hc) hg hm (by decide +kernel) (pa_cons ha.pe pa_nil hs) (by decide) (by decide) hs hpl, se_call1 ha.si fun hid O H v x d al rv hx Q q => by
  obtain ⟨bs, h1, rfl⟩ := map_some hx
  obtain ⟨p, rfl, h2⟩ := bls_tv rv h1
  exact ⟨p, bs, rfl, h2, q _ H (Ex.refl H) (.bl _)⟩⟩
theorem de_all (hc : X.calm = true) (hm : X.mg "all" = none) (ha : DT X a ma) (hg : Gl X "all" := by rfl) (hs : starEach [a] X.env = (false, eval a X.env) :: starEach [] X.env := by rfl) (hpl : (backTo pos (starEach [] X.env)).any (·.1) = false := by rfl) :
    DE X (.Call (.Name "all" p) [a] [] pos) (mUn allLD ma) := ⟨_, pe_callB (cr_all hc) hg hm (by decide +kernel) (pa_cons ha.pe pa_nil hs) (by decide) (by decide) hs hpl, se_call1 ha.si fun hid O H v x d al rv hx Q q => by
  obtain ⟨bs, h1, rfl⟩ := map_some hx
  obtain ⟨p, rfl, h2⟩ := bls_tv rv h1
  exact ⟨p, bs, rfl, h2, q _ H (Ex.refl H) (.bl _)⟩⟩
/-- the least, the greatest of a list of ints -/
def minL : List Int → Option Int
  | [] => none
  | [a] => some a
  | a :: as => (minL as).map fun b => if a ≤ b then a else b
def maxL : List Int → Option Int
  | [] => none
  | [a] => some a
  | a :: as => (maxL as).map fun b => if b ≤ a then a else b
theorem minL_ok : ∀ {ns : List Int} {r : Int}, minL ns = some r → r ∈ ns ∧ ∀ y ∈ ns, r ≤ y
  | [a], r, h => by
    cases h
    simp
  | a :: b :: as, r, h => by
    obtain ⟨c, h1, rfl⟩ := map_some (show (minL (b :: as)).map (fun b => if a ≤ b then a else b) = some r from h)
    obtain ⟨h2, h3⟩ := minL_ok h1
    by_cases h4 : a ≤ c
    · rw [if_pos h4]
      refine ⟨List.mem_cons_self .., fun y hy => ?_⟩
      rcases List.mem_cons.mp hy with rfl | hy
      · omega
      · have := h3 y hy
        omega
    · rw [if_neg h4]
      refine ⟨List.mem_cons_of_mem _ h2, fun y hy => ?_⟩
      rcases List.mem_cons.mp hy with rfl | hy
      · omega
      · exact h3 y hy
theorem maxL_ok : ∀ {ns : List Int} {r : Int}, maxL ns = some r → r ∈ ns ∧ ∀ y ∈ ns, y ≤ r
  | [a], r, h => by
    cases h
    simp
  | a :: b :: as, r, h => by
    obtain ⟨c, h1, rfl⟩ := map_some (show (maxL (b :: as)).map (fun b => if b ≤ a then a else b) = some r from h)
    obtain ⟨h2, h3⟩ := maxL_ok h1
    by_cases h4 : c ≤ a
    · rw [if_pos h4]
      refine ⟨List.mem_cons_self .., fun y hy => ?_⟩
      rcases List.mem_cons.mp hy with rfl | hy
      · omega
      · have := h3 y hy
        omega
    · rw [if_neg h4]
      refine ⟨List.mem_cons_of_mem _ h2, fun y hy => ?_⟩
      rcases List.mem_cons.mp hy with rfl | hy
      · omega
      · exact h3 y hy
theorem minL_def : ∀ {ns : List Int}, ns ≠ [] → ∃ r, minL ns = some r
  | [a], _ => ⟨a, rfl⟩
  | a :: b :: as, _ => by
    obtain ⟨r, h⟩ := minL_def (ns := b :: as) (by simp)
    exact ⟨_, by show (minL (b :: as)).map _ = _; rw [h]; rfl⟩
theorem maxL_def : ∀ {ns : List Int}, ns ≠ [] → ∃ r, maxL ns = some r
  | [a], _ => ⟨a, rfl⟩
  | a :: b :: as, _ => by
    obtain ⟨r, h⟩ := maxL_def (ns := b :: as) (by simp)
    exact ⟨_, by show (maxL (b :: as)).map _ = _; rw [h]; rfl⟩
@[simp] def min1D (d : D) : Option D := ((intsOf d).bind minL).map .int
@[simp] def max1D (d : D) : Option D := ((intsOf d).bind maxL).map .int
theorem de_min1 (hc : X.calm = true) (hm : X.mg "min" = none) (ha : DT X a ma) (hg : Gl X "min" := by rfl) (hs : starEach [a] X.env = (false, eval a X.env) :: starEach [] X.env := by rfl) (hpl : (backTo pos (starEach [] X.env)).any (·.1) = false := by rfl) :
    DE X (.Call (.Name "min" p) [a] [] pos) (mUn min1D ma) := ⟨_, pe_callB (cr_min hc) hg hm (by decide +kernel) (pa_cons ha.pe pa_nil hs) (by decide) (by decide) hs hpl, se_call1 ha.si fun hid O H v x d al rv hx Q q => by
  obtain ⟨r, h1, rfl⟩ := map_some hx
  obtain ⟨ns, h2, h3⟩ := bind_some h1
  obtain ⟨p, rfl, h4⟩ := ints_tv rv h2
  obtain ⟨h5, h6⟩ := minL_ok h3
  refine ⟨p, ns, rfl, h4, List.length_pos_of_mem h5, fun m hm1 hm2 => ?_⟩
  have : m = r := by
    have := hm2 r h5
    have := h6 m hm1
    omega
  subst this
  exact q _ H (Ex.refl H) (.int _)⟩
theorem de_max1 (hc : X.calm = true) (hm : X.mg "max" = none) (ha : DT X a ma) (hg : Gl X "max" := by rfl) (hs : starEach [a] X.env = (false, eval a X.env) :: starEach [] X.env := by rfl) (hpl : (backTo pos (starEach [] X.env)).any (·.1) = false := by rfl) :
    DE X (.Call (.Name "max" p) [a] [] pos) (mUn max1D ma) := ⟨_, pe_callB (cr_max hc) hg hm (by decide +kernel) (pa_cons ha.pe pa_nil hs) (by decide) (by decide) hs hpl, se_call1 ha.si fun hid O H v x d al rv hx Q q => by
  obtain ⟨r, h1, rfl⟩ := map_some hx
  obtain ⟨ns, h2, h3⟩ := bind_some h1
  obtain ⟨p, rfl, h4⟩ := ints_tv rv h2
  obtain ⟨h5, h6⟩ := maxL_ok h3
  refine ⟨p, ns, rfl, h4, List.length_pos_of_mem h5, fun m hm1 hm2 => ?_⟩
  have : m = r := by
    have := hm2 r h5
    have := h6 m hm1
    omega
  subst this
  exact q _ H (Ex.refl H) (.int _)⟩
end
end Sx

set_option Elab.async false
set_option linter.all false
set_option maxRecDepth 100000
set_option maxHeartbeats 1000000
namespace Sx
open PySem PySem.Spec PyProof.Rows L2
open Evl (Ex)

/-! ### xs.count(text) -/
def eqs (k : Str) (v : Value) : Bool := match v with
  | .str n _ => n == k
  | _ => false
theorem eqs_count {k : Str} : ∀ {ss : List Str} {us : List Value}, Vals (ss.map V.str) us → us.countP (eqs k) = ss.count k
  | [], _, h => by cases h; rfl
  | s :: ss, _, h => by
    cases h with
    | cons h1 h2 =>
      obtain ⟨t, rfl⟩ := h1
      rw [List.countP_cons, List.count_cons, eqs_count h2] <;> rfl
theorem eqs_at {A : Around} {sh : Shared} {k : Str} {t : Tok} : ∀ {ss : List Str} {us : List Value}, Vals (ss.map V.str) us → ∀ y ∈ us, SeqAt.EqAt A sh y (.str k t) (eqs k y)
  | [], _, h => fun y hy => by cases h; cases hy
  | s :: ss, _, h => fun y hy => by
    cases h with
    | cons h1 h2 =>
      obtain ⟨u, rfl⟩ := h1
      rcases List.mem_cons.mp hy with rfl | hy
      · exact SeqAt.EqAt.str_str s u k t
      · exact eqs_at h2 y hy
def rCntS (K : PySem.W.Frag) : V → List V → Hp → VK → Prop := fun x xs H Q => ∃ (p : Addr) (ss : List Str) (k : Str), x = .ref p ∧ xs = [.str k] ∧ SqL K H p (ss.map V.str) ∧ Q (.int (ss.count k : Nat)) H
theorem mt_lcountS {X : Cx} : MtR X "list.count" (rCntS X.K) := by
  intro pins s σ H x xs v us Q I rx rxs h
  obtain ⟨p, ss, k, rfl, rfl, hs, q⟩ := h
  cases rx
  obtain ⟨u, rfl, ru⟩ := rxs.one
  obtain ⟨t, rfl⟩ := ru
  obtain ⟨its, rv, ⟨⟨cls, dd, data, sl⟩, n, ho, hc, hdn, hd⟩, hlen⟩ := I.list hs
  simp only at hc hd
  subst hc hd
  refine call_meets PySem.F.slot_list_count ⟨_, ho, rfl⟩ PySem.F.entry_list_count (PySem.F.args_list_count_2 _ _)
    (SeqAt.list_countAt p its.toArray n dd sl (.str k t) (eqs k)) ⟨ho, fun y hy => eqs_at rv y (by simpa using hy), ?_⟩
  have ec : its.toArray.toList.countP (eqs k) = ss.count k := eqs_count rv
  refine ⟨.int (ss.count k : Nat), H, I.tok _, ⟨s.toks, ?_⟩, q⟩
  show Value.int ((its.toArray.toList.countP (eqs k) : Nat) : Int) s.toks = Value.int ((ss.count k : Nat) : Int) s.toks
  rw [ec]
section
variable {X : Cx} {e e2 : Expr} {te te2 : TE} {m m2 : En → Option D} {x : Str} {p apos cpos pos : Pos}
@[simp] def cntD : D → D → Option D
  | c, .str z => ((lstOnly c).bind allStrs).map fun ss => .int ((ss.count z : Nat) : Int)
  | _, _ => none
theorem de_cntS (ha : DT X e m) (hb : DT X e2 m2)
    (hbase : attributeBase e "count" X.env (eval e X.env) = eval e X.env := by rfl)
    (hfew : ((backTo cpos (starEach [e2] X.env)).all (fun x => !x.1) && (backToKw cpos (keywordEach [] X.env)).all (fun x => x.1.isSome)
      && decide ([e2].length + ([] : List Keyword).length + (if ([] : List Keyword).isEmpty then 0 else 1) < 30)) = true := by rfl)
    (hline : (apos.endLine == cpos.line) = true := by rfl) (hs : starEach [e2] X.env = (false, eval e2 X.env) :: starEach [] X.env := by rfl) (hplain : (backTo cpos (starEach [] X.env)).any (·.1) = false := by rfl) :
    DE X (.Call (.Attribute e "count" apos) [e2] [] cpos) (mBin cntD m m2) :=
  ⟨_, pe_bm PySem.F.plainAttrs_list PySem.F.slot_list_count PySem.F.type_list_count mt_lcountS ha.pe (pa_cons hb.pe pa_nil hs) hbase hfew hline hs hplain, fun hid O B H σ E d r hm Q q => by
  obtain ⟨a, h1, hm⟩ := bind_some hm
  obtain ⟨b, h2, hm⟩ := bind_some hm
  unfold cntD at hm
  split at hm
  · obtain ⟨ss, h3, rfl⟩ := map_some hm
    obtain ⟨ds, h4, h5⟩ := bind_some h3
    refine ha.si hid O B H σ E a r h1 _ fun v H1 e1 r1 => ?_
    obtain rfl := lstOnly_some h4
    obtain ⟨p', xs, rfl, g1, g2⟩ := r1.lst
    refine ⟨.inl ⟨rfl, xs, .inl (.inl g1)⟩, ?_⟩
    refine hb.si hid O B H1 σ E _ (r.grow e1) h2 _ fun u H2 e2 r2 => ?_
    obtain rfl := r2.str
    rw [allStrs_some h5] at g2
    rw [RpL.strs_of g2] at g1
    exact ⟨p', ss, _, rfl, rfl, .inl (.inl (e2 _ _ g1)), q _ H2 (e1.trans e2) (.int _)⟩
  · cases hm⟩
/-! ### targets = xs.pop() -/
@[simp] def mPopA (i : Nat) (mg : En → D → Option En) : En → Option Out := fun E => match E[i]? with
  | some (.ow ds) => ds.getLast?.bind fun d => (mg (E.set i (.ow ds.dropLast)) d).map .nx
  | _ => none
theorem RpL.dropLast {K : PySem.W.Frag} {H : Hp} {vs : List V} {ds : List D} (h : RpL K H vs ds) : RpL K H vs.dropLast ds.dropLast := by
  rw [List.dropLast_eq_take, List.dropLast_eq_take, h.length]
  exact h.take _
theorem ds_popA (i : Nat) {tg : Expr} {js : List Nat} {mg : En → D → Option En} (hg : DG X tg js mg) (hN : X.N[i]? = some x := by rfl) (hv : Vis X.env.scope x := by first | exact Or.inl rfl | exact Or.inr (Or.inl rfl) | exact Or.inr (Or.inr rfl)) (hd : (x == ("__debug__" : Str)) = false := by decide) (hcd : (x == ("__classdict__" : Str)) = false := by decide)
    (hbase : attributeBase (.Name x p) "pop" X.env (eval (.Name x p) X.env) = eval (.Name x p) X.env := by rfl) (hline : (apos.endLine == cpos.line) = true := by rfl)
    (hs : swapsWithSole [tg] (.Call (.Attribute (.Name x p) "pop" apos) [] [] cpos) pos.line X.env = pure false := by rfl) (hw : swappedStores [tg] (.Call (.Attribute (.Name x p) "pop" apos) [] [] cpos) X.env = pure none := by rfl)
    (h1 : (assignEach [tg] X.env).map (·.2) = [assign tg X.env] := by rfl) :
    DS X (.Assign [tg] (.Call (.Attribute (.Name x p) "pop" apos) [] [] cpos) pos) (mPopA i mg) :=
  ⟨_, ps_asg (pe_bm0 PySem.F.plainAttrs_list PySem.F.slot_list_pop PySem.F.type_list_pop mt_pop (pe_var hN hv hd hcd) hbase hline) hg.pg hs hw h1, fun hid O B H σ E o Dn r hm k => by
  unfold mPopA at hm
  split at hm
  · rename_i ds h2
    obtain ⟨d, h3, hm⟩ := bind_some hm
    obtain ⟨E', h4, rfl⟩ := map_some hm
    obtain ⟨q, xs, g1, g2, g3, g4⟩ := r.ow i ds h2
    refine ⟨.ref q, g1, .inl ⟨rfl, xs, .inl (.inl g3)⟩, ?_⟩
    have h5 : ds[ds.length - 1]? = some d := by rw [← List.getLast?_eq_getElem?]; exact h3
    obtain ⟨y, g5, g6⟩ := g4.get h5
    refine ⟨q, xs, y, rfl, rfl, g3, by rw [g4.length]; exact g5, ?_⟩
    have r2 := r.chg h2 g1 g4.dropLast
    exact hg.si hid O B _ σ _ y d E' r2 (g6.mono (rem_upd (.inr g2)) _) h4 _ fun σ' r' _ => k O σ' _ r'
  · cases hm⟩
/-! ### x op= e -/
@[simp] def mAug (f : Int → Int → Int) (i : Nat) (m : En → Option D) : En → Option Out := fun E => match E[i]? with
  | some (.fz (.int a)) => (m E).bind fun d => match d with
    | .int b => some (.nx (E.set i (.fz (.int (f a b)))))
    | _ => none
  | _ => none
theorem ss_aug {K : PySem.W.Frag} {f : Int → Int → Int} (i : Nat) {te : TE} (h : SE K te m) : SS K (tAug i te (ipI f)) (mAug f i m) := fun hid O B H σ E o Dn r hm k => by
  unfold mAug at hm
  split at hm
  · rename_i a h2
    obtain ⟨d, h3, hm⟩ := bind_some hm
    split at hm
    · cases hm
      obtain ⟨v, g1, g2⟩ := r.fz i _ h2
      cases g2
      refine ⟨_, g1, h hid O B H σ E _ r h3 _ fun v H1 e1 r1 => ?_⟩
      cases r1
      refine ⟨_, _, rfl, rfl, k O _ H1 ((r.grow e1).put i (.int _))⟩
    · cases hm
  · cases hm
theorem ds_augAdd (i : Nat) {pos' : Pos} (hN : X.N.Nodup) (he : DE X e m) (hi : X.N[i]? = some x := by rfl) (hx : Loc X.env.scope x := by first | exact Or.inl rfl | exact Or.inr rfl) (hf : X.fn x = true ∨ X.env.scope.names.lookup x = some .local := by first | exact .inl rfl | exact .inr rfl) :
    DS X (.AugAssign (.Name x pos') .Add e pos) (mAug (fun i j => i + j) i m) := ⟨_, ps_aug hN hi hx he.pe ip_add hf, ss_aug i he.si⟩
theorem ds_augSub (i : Nat) {pos' : Pos} (hN : X.N.Nodup) (he : DE X e m) (hi : X.N[i]? = some x := by rfl) (hx : Loc X.env.scope x := by first | exact Or.inl rfl | exact Or.inr rfl) (hf : X.fn x = true ∨ X.env.scope.names.lookup x = some .local := by first | exact .inl rfl | exact .inr rfl) :
    DS X (.AugAssign (.Name x pos') .Sub e pos) (mAug (fun i j => i - j) i m) := ⟨_, ps_aug hN hi hx he.pe ip_sub hf, ss_aug i he.si⟩
end
/-! ### defs with keyword-only parameters -/
/-- a def of the text, with keyword-only defaults -/
structure StandsK (K : PySem.W.Frag) (mg : Str → Option Value) (x : Str) (st : Stmt) (kws : List (Str × V)) : Prop where
  ex : ∃ (f : Addr) (fd : FuncData), mg x = some (.ref f) ∧ FunD K x x (defArgs st) (defBody st) (defScope st) [] kws f fd
structure CalK (P : Program) (w : World) (K : PySem.W.Frag) (mg : Str → Option Value) (base : Heap) (x : Str) (k n : Nat) (npos : Nat) (ks : List Str) (dvs : List V) (sp : Sp) : Prop where
  ex : ∃ (f : Addr) (fd : FuncData) (ps : List Str), mg x = some (.ref f) ∧ FnOk P w K mg base CX0 k f fd ps sp ∧ PySem.W.keepIn K (.ref f) = true ∧
    (∃ ds, Vals dvs ds ∧ Binds K fd ps ds) ∧ KBn K fd ps npos ks (fun us ws => us ++ ws) (fun vs zs => vs ++ zs)
theorem hid_ok {K : PySem.W.Frag} {hid O : AS} {B H : Hp} {σ : L2.St} {E : En} (re : RE K hid O B H σ E) : ∀ a, orS hid O a → IsM H a := fun a z => by
  rcases z with z | z
  · exact (re.hidd a z).mono re.ex
  · exact (re.own a z).2
section
variable {X : Cx} {x : Str} {k n npos : Nat} {ks : List Str} {dvs : List V} {m : List D → Option D} {mF : List D → Option (List D)} {e : Expr} {es : List Expr} {kws : List Keyword} {ma mk : En → Option (List D)} {p pos : Pos} {P : Program} {w : World} {K : PySem.W.Frag} {mg : Str → Option Value} {base : Heap} {A : Around}
/-- keyword arguments -/
def DK (X : Cx) (kws : List Keyword) (m : En → Option (List D)) : Prop := ∃ ta, PK X kws ta ∧ SA X.K ta m
theorem dk_nil : DK X [] mNil := ⟨_, pk_nil, fun hid O B H σ E ds re hm Q q => by
  cases hm
  exact q [] H (Ex.refl H) .nil⟩
theorem dk_cons {nm : Option Str} {kpos : Pos} {m1 : En → Option D} (h : DE X e m1) (hr : DK X kws mk) : DK X (⟨nm, e, kpos⟩ :: kws) (mCons m1 mk) := by
  obtain ⟨ta, h1, h2⟩ := hr
  refine ⟨_, pk_cons h.pe h1, fun hid O B H σ E ds re hm Q q => ?_⟩
  obtain ⟨d, h3, hm⟩ := bind_some hm
  obtain ⟨xs, h4, rfl⟩ := map_some hm
  refine h.si hid O B H σ E d re h3 _ fun v H1 e1 r1 => ?_
  exact h2 hid O B H1 σ E xs (re.grow e1) h4 _ fun vs H2 e2 r2 => q _ H2 (e1.trans e2) (.cons (r1.mono (rem_mono e2) _) r2)
@[simp] def mApL (a b : En → Option (List D)) : En → Option (List D) := fun E => (a E).bind fun xs => (b E).map fun ys => xs ++ ys
@[simp] def mApC (a : En → Option (List D)) (b : List D) : En → Option (List D) := fun E => (a E).map fun xs => xs ++ b
@[simp] def mLen (n : Nat) (a : En → Option (List D)) : En → Option (List D) := fun E => (a E).bind fun xs => if xs.length = n then some xs else none
theorem RpL.appI {H : Hp} : ∀ {vs us : List V} {ds es : List D}, RpL K H vs ds → RpL K H us es → RpL K H (vs ++ us) (ds ++ es) := RpL.app
theorem de_callK (G : CalK P w K mg base x k n npos ks dvs (spD K n m)) (hr : Room k A) (ha : DA X (e :: es) ma) (hk : DK X kws mk) (hA : X.A = A := by rfl) (hP : X.prog = P := by rfl) (hw : X.w = w := by rfl) (hK : X.K = K := by rfl) (hmg : X.mg = mg := by rfl) (hba : X.base = base := by rfl) (hg : Gl X x := by rfl)
    (hall : (backToKw pos (keywordEach kws X.env)).all (·.1.isSome) = true := by rfl) (hks : (backToKw pos (keywordEach kws X.env)).filterMap (·.1) = ks := by rfl)
    (hdb : (x == ("__debug__" : Str)) = false := by decide) (he : starEach (e :: es) X.env = (false, eval e X.env) :: starEach es X.env := by rfl)
    (hpl : ((backTo pos (starEach (e :: es) X.env)).any (·.1) || (backToKw pos (keywordEach kws X.env)).any (·.1.isNone)) = false := by rfl) :
    DE X (.Call (.Name x p) (e :: es) kws pos) (mCall n m (mApL (mLen npos ma) (mLen ks.length mk))) := by
  subst hA hP hw hK hmg hba
  obtain ⟨f, fd, ps, g1, g2, g3, _, g5⟩ := G.ex
  obtain ⟨tk, hk1, hk2⟩ := hk
  refine ⟨_, pe_callN g2 hr hg g1 g3 g5 pass0 ha.pa hk1 hall hks hdb he hpl, fun hid O B H σ E d re hm Q q => ?_⟩
  obtain ⟨ds, h1, hm⟩ := bind_some hm
  obtain ⟨l1, hm⟩ := (show ds.length = n ∧ m ds = some d by
    by_cases hl : ds.length = n
    · rw [if_pos hl] at hm
      exact ⟨hl, hm⟩
    · rw [if_neg hl] at hm
      cases hm)
  obtain ⟨xs, h2, h1'⟩ := bind_some h1
  obtain ⟨ys, h3, rfl⟩ := map_some h1'
  obtain ⟨xs', h2', h4'⟩ := bind_some h2
  obtain ⟨h4, rfl⟩ := ite_some h4'
  obtain ⟨ys', h3', h5'⟩ := bind_some h3
  obtain ⟨h5, rfl⟩ := ite_some h5'
  refine ha.si hid O B H σ E _ re h2' _ fun vs H1 e1 r1 => ?_
  refine hk2 hid O B H1 σ E _ (re.grow e1) h3' _ fun zs H2 e2 r2 => ⟨by rw [r1.length, h4], by rw [r2.length, h5], ?_⟩
  exact ⟨orS hid O, _, d, hid_ok ((re.grow e1).grow e2), (RpL.mono (rem_mono e2) _ r1).app r2, l1, hm, fun v H3 e3 r3 => q v H3 ((e1.trans e2).trans e3) r3⟩
theorem df_callK (G : CalK P w K mg base x k n npos ks dvs (spF K n mF)) (hr : Room k A) (ha : DA X (e :: es) ma) (hk : DK X kws mk) (hA : X.A = A := by rfl) (hP : X.prog = P := by rfl) (hw : X.w = w := by rfl) (hK : X.K = K := by rfl) (hmg : X.mg = mg := by rfl) (hba : X.base = base := by rfl) (hg : Gl X x := by rfl)
    (hall : (backToKw pos (keywordEach kws X.env)).all (·.1.isSome) = true := by rfl) (hks : (backToKw pos (keywordEach kws X.env)).filterMap (·.1) = ks := by rfl)
    (hdb : (x == ("__debug__" : Str)) = false := by decide) (he : starEach (e :: es) X.env = (false, eval e X.env) :: starEach es X.env := by rfl)
    (hpl : ((backTo pos (starEach (e :: es) X.env)).any (·.1) || (backToKw pos (keywordEach kws X.env)).any (·.1.isNone)) = false := by rfl) :
    DF X (.Call (.Name x p) (e :: es) kws pos) (mCallF n mF (mApL (mLen npos ma) (mLen ks.length mk))) := by
  subst hA hP hw hK hmg hba
  obtain ⟨f, fd, ps, g1, g2, g3, _, g5⟩ := G.ex
  obtain ⟨tk, hk1, hk2⟩ := hk
  refine ⟨_, pe_callN g2 hr hg g1 g3 g5 pass0 ha.pa hk1 hall hks hdb he hpl, fun hid O B H σ E d re hm Q q => ?_⟩
  obtain ⟨ds, h1, hm⟩ := bind_some hm
  obtain ⟨l1, hm⟩ := (show ds.length = n ∧ mF ds = some d by
    by_cases hl : ds.length = n
    · rw [if_pos hl] at hm
      exact ⟨hl, hm⟩
    · rw [if_neg hl] at hm
      cases hm)
  obtain ⟨xs, h2, h1'⟩ := bind_some h1
  obtain ⟨ys, h3, rfl⟩ := map_some h1'
  obtain ⟨xs', h2', h4'⟩ := bind_some h2
  obtain ⟨h4, rfl⟩ := ite_some h4'
  obtain ⟨ys', h3', h5'⟩ := bind_some h3
  obtain ⟨h5, rfl⟩ := ite_some h5'
  refine ha.si hid O B H σ E _ re h2' _ fun vs H1 e1 r1 => ?_
  refine hk2 hid O B H1 σ E _ (re.grow e1) h3' _ fun zs H2 e2 r2 => ⟨by rw [r1.length, h4], by rw [r2.length, h5], ?_⟩
  exact ⟨orS hid O, _, d, hid_ok ((re.grow e1).grow e2), (RpL.mono (rem_mono e2) _ r1).app r2, l1, hm, fun p xs H3 hp e3 hx r3 => q p xs H3 (Evl.fresh_back (e1.trans e2) hp) ((e1.trans e2).trans e3) hx r3⟩
theorem de_callD (G : CalK P w K mg base x k n npos ks dvs (spD K n m)) (dds : List D) (hdd : ∀ H, RpL K H dvs dds) (hr : Room k A) (ha : DA X (e :: es) ma) (hA : X.A = A := by rfl) (hP : X.prog = P := by rfl) (hw : X.w = w := by rfl) (hK : X.K = K := by rfl) (hmg : X.mg = mg := by rfl) (hba : X.base = base := by rfl) (hg : Gl X x := by rfl) (hdb : (x == ("__debug__" : Str)) = false := by decide) (he : starEach (e :: es) X.env = (false, eval e X.env) :: starEach es X.env := by rfl) (hpl : (backTo pos (starEach es X.env)).any (·.1) = false := by rfl) :
    DE X (.Call (.Name x p) (e :: es) [] pos) (mCall n m (mApC ma dds)) := by
  subst hA hP hw hK hmg hba
  obtain ⟨f, fd, ps, g1, g2, g3, ⟨ws, g4, g5⟩, _⟩ := G.ex
  refine ⟨_, pe_call g2 hr hg g1 g3 g5 g4 pass0 ha.pa hdb he hpl, fun hid O B H σ E d re hm Q q => ?_⟩
  obtain ⟨ds, h1, hm⟩ := bind_some hm
  obtain ⟨l1, hm⟩ := (show ds.length = n ∧ m ds = some d by
    by_cases hl : ds.length = n
    · rw [if_pos hl] at hm
      exact ⟨hl, hm⟩
    · rw [if_neg hl] at hm
      cases hm)
  obtain ⟨xs, h2, rfl⟩ := map_some h1
  refine ha.si hid O B H σ E _ re h2 _ fun vs H1 e1 r1 => ?_
  exact ⟨orS hid O, _, d, hid_ok (re.grow e1), r1.app (hdd _), l1, hm, fun v H3 e3 r3 => q v H3 (e1.trans e3) r3⟩
theorem df_callD (G : CalK P w K mg base x k n npos ks dvs (spF K n mF)) (dds : List D) (hdd : ∀ H, RpL K H dvs dds) (hr : Room k A) (ha : DA X (e :: es) ma) (hA : X.A = A := by rfl) (hP : X.prog = P := by rfl) (hw : X.w = w := by rfl) (hK : X.K = K := by rfl) (hmg : X.mg = mg := by rfl) (hba : X.base = base := by rfl) (hg : Gl X x := by rfl) (hdb : (x == ("__debug__" : Str)) = false := by decide) (he : starEach (e :: es) X.env = (false, eval e X.env) :: starEach es X.env := by rfl) (hpl : (backTo pos (starEach es X.env)).any (·.1) = false := by rfl) :
    DF X (.Call (.Name x p) (e :: es) [] pos) (mCallF n mF (mApC ma dds)) := by
  subst hA hP hw hK hmg hba
  obtain ⟨f, fd, ps, g1, g2, g3, ⟨ws, g4, g5⟩, _⟩ := G.ex
  refine ⟨_, pe_call g2 hr hg g1 g3 g5 g4 pass0 ha.pa hdb he hpl, fun hid O B H σ E d re hm Q q => ?_⟩
  obtain ⟨ds, h1, hm⟩ := bind_some hm
  obtain ⟨l1, hm⟩ := (show ds.length = n ∧ mF ds = some d by
    by_cases hl : ds.length = n
    · rw [if_pos hl] at hm
      exact ⟨hl, hm⟩
    · rw [if_neg hl] at hm
      cases hm)
  obtain ⟨xs, h2, rfl⟩ := map_some h1
  refine ha.si hid O B H σ E _ re h2 _ fun vs H1 e1 r1 => ?_
  exact ⟨orS hid O, _, d, hid_ok (re.grow e1), r1.app (hdd _), l1, hm, fun p xs H3 hp e3 hx r3 => q p xs H3 (Evl.fresh_back e1 hp) (e1.trans e3) hx r3⟩
end
section
variable {P : Program} {w : World} {K : PySem.W.Frag} {mg : Str → Option Value} {base : Heap}
theorem fn_mkK {x : Str} {st : Stmt} {N ps : List Str} {k n : Nat} {m : En → Option Out} {f : Addr} {fd : FuncData} {dv : List V} {kws : List (Str × V)} (F : FunD K x x (defArgs st) (defBody st) (defScope st) dv kws f fd) (S : FnScope N ps (defScope st)) (hn : ps.length = n)
    (hbody : ∀ (cdv : Value) (A : Around) (outer : List Env) (s : Shared) (H : Hp) (E : XK), Room k (A.deeper (envOfC x (defScope st) s.heap.objs.size f cdv)) →
      DSs (cxOf CX0 P w K mg base N x (defScope st) f cdv A outer s H E).nox (defBody st) m) : FnOk P w K mg base CX0 (k + 1) f fd ps (spD K n (callM n N.length m)) := by
  refine F.ok S (fun vs H Q E h => ?_) (fun cdv A outer s H vs Q E hr h => ?_)
  · obtain ⟨hid, ds, d, _, h1, h2, _⟩ := h
    rw [h1.length, h2, hn]
  · obtain ⟨hid, ds, d, h0, h1, h2, h3, q⟩ := h
    have T := hbody cdv A outer s H E hr
    refine ⟨_, T.ps.nox, ?_⟩
    have r0 : RE K hid noS H H (start N vs) (ds.map Sl.fz ++ List.replicate (N.length - ds.length) Sl.un) := RE.start h0 h1
    unfold callM at h3
    split at h3
    · rename_i d' e
      cases h3
      exact T.si hid noS H H _ _ (.rt d) _ r0 e fun v H' ex rv => q v H' ex rv
    · rename_i es e
      cases h3
      exact T.si hid noS H H _ _ (.rf es) _ r0 e fun p xs H' hp ex hx rv => q _ H' ex (.lst (rem_some.mpr ⟨fun z => (by
        obtain ⟨o, z, _⟩ := h0 p z
        rw [hp] at z
        cases z), hx⟩) (rv.mono (rem_sub fun a z => .inl z) es))
    · rename_i E' e
      cases h3
      exact T.si hid noS H H _ _ (.nx E') _ r0 e fun O' σ' H' r' => q .non H' r'.ex .non
    · cases h3
theorem fnF_mkK {x : Str} {st : Stmt} {N ps : List Str} {k n : Nat} {m : En → Option Out} {f : Addr} {fd : FuncData} {dv : List V} {kws : List (Str × V)} (F : FunD K x x (defArgs st) (defBody st) (defScope st) dv kws f fd) (S : FnScope N ps (defScope st)) (hn : ps.length = n)
    (hbody : ∀ (cdv : Value) (A : Around) (outer : List Env) (s : Shared) (H : Hp) (E : XK), Room k (A.deeper (envOfC x (defScope st) s.heap.objs.size f cdv)) →
      DSs (cxOf CX0 P w K mg base N x (defScope st) f cdv A outer s H E).nox (defBody st) m) : FnOk P w K mg base CX0 (k + 1) f fd ps (spF K n (callF n N.length m)) := by
  refine F.ok S (fun vs H Q E h => ?_) (fun cdv A outer s H vs Q E hr h => ?_)
  · obtain ⟨hid, ds, d, _, h1, h2, _⟩ := h
    rw [h1.length, h2, hn]
  · obtain ⟨hid, ds, es, h0, h1, h2, h3, q⟩ := h
    have T := hbody cdv A outer s H E hr
    refine ⟨_, T.ps.nox, ?_⟩
    have r0 : RE K hid noS H H (start N vs) (ds.map Sl.fz ++ List.replicate (N.length - ds.length) Sl.un) := RE.start h0 h1
    unfold callF at h3
    split at h3
    · rename_i es' e
      cases h3
      exact T.si hid noS H H _ _ (.rf es) _ r0 e fun p xs H' hp ex hx rv => q p xs H' hp ex hx rv
    · cases h3
theorem calK_of {x : Str} {st : Stmt} {ps : List Str} {k n npos : Nat} {kws : List (Str × V)} {sp : Sp} (F : StandsK K mg x st kws) (hk : kws ≠ [])
    (hn : npos + kws.length = ps.length)
    (hb0 : ∀ (D : Addr) (doc pm : Value) (an : Option Addr) (cdv ct : Value) (us ks : List Value), us.length = npos → ks.length = kws.length →
      KwChain D ((kws.map (·.1)).zip ks) (bindArgs (PySem.W.fnOf x x (defArgs st) (defBody st) (defScope st) .none (.ref D) doc pm an cdv ct) ⟨us, []⟩) (ps.zip (us ++ ks)))
    (hb1 : ∀ (D : Addr) (doc pm : Value) (an : Option Addr) (cdv ct : Value) (us ws : List Value), us.length = npos → ws.length = (kws.map (·.1)).length →
      bindArgs (PySem.W.fnOf x x (defArgs st) (defBody st) (defScope st) .none (.ref D) doc pm an cdv ct) ⟨us, (kws.map (·.1)).zip ws⟩ = pure (ps.zip (us ++ ws)))
    (h : ∀ {f : Addr} {fd : FuncData}, FunD K x x (defArgs st) (defBody st) (defScope st) [] kws f fd → FnOk P w K mg base CX0 k f fd ps sp) : CalK P w K mg base x k n npos (kws.map (·.1)) (kws.map (·.2)) sp := by
  obtain ⟨f, fd, g, F⟩ := F.ex
  obtain ⟨mv, kb⟩ := F.kbinds0 (ps := ps) npos (kws.map (·.1)) [] (fun us _ ws => us ++ ws) hk (fun q hq => by cases hq) (fun r1 _ r3 => r1.append r3) (fun D doc pm an cdv ct us mv ws l1 l2 l3 => by
    cases mv with
    | nil => exact hb1 D doc pm an cdv ct us ws l1 l3
    | cons _ _ => cases l2)
  exact ⟨f, fd, ps, g, h F, F.kp, F.binds0 npos hk hn hb0, kb⟩
end
end Sx

set_option Elab.async false
set_option linter.all false
set_option maxRecDepth 100000
set_option maxHeartbeats 1000000
namespace Sx
open PySem PySem.Spec PyProof.Rows L2
open Evl (Ex)

/-! ### a node's name is not used -/
mutual
@[simp] def rNo (n : Nat) : R → Bool
  | .fz _ => true
  | .rf m => m != n
  | .tp rs => rNos n rs
@[simp] def rNos (n : Nat) : List R → Bool
  | [] => true
  | r :: rs => rNo n r && rNos n rs
end
@[simp] def ndNo (n : Nat) : Nd → Bool
  | .lst rs => rNos n rs
  | .dct _ rs => rNos n rs
  | .obj _ _ _ rs => rNos n rs
  | .ll _ => true
@[simp] def slNo (n : Nat) : Sl → Bool
  | .rt r => rNo n r
  | .nd x => ndNo n x
  | _ => true
mutual
@[simp] def rSub (n : Nat) (d : D) : R → R
  | .fz e => .fz e
  | .rf m => if m = n then .fz d else .rf m
  | .tp rs => .tp (rSubs n d rs)
@[simp] def rSubs (n : Nat) (d : D) : List R → List R
  | [] => []
  | r :: rs => rSub n d r :: rSubs n d rs
end
@[simp] def ndSub (n : Nat) (d : D) : Nd → Nd
  | .lst rs => .lst (rSubs n d rs)
  | .dct ks rs => .dct ks (rSubs n d rs)
  | .obj q x fs rs => .obj q x fs (rSubs n d rs)
  | .ll dss => .ll dss
@[simp] def slSub (n : Nat) (d : D) : Sl → Sl
  | .rt r => .rt (rSub n d r)
  | .nd x => .nd (ndSub n d x)
  | s => s
@[simp] def noE (n : Nat) (E : En) : Bool := E.all (slNo n)
@[simp] def subE (n : Nat) (d : D) (E : En) : En := (E.map (slSub n d)).set n .un
section
variable {K : PySem.W.Frag} {H : Hp} {θ θ' : Nat → Addr} {n : Nat}
mutual
theorem ROk.th (h : ∀ m, m ≠ n → θ' m = θ m) : ∀ (r : R) {v : V}, rNo n r = true → ROk K H θ v r → ROk K H θ' v r
  | .fz d, v, _, q => by cases q with | fz q => exact .fz q
  | .rf m, v, z, q => by
    cases q
    rw [rNo] at z
    rw [← h m (by simpa using z)]
    exact .rf m
  | .tp rs, v, z, q => by
    rw [rNo] at z
    cases q with
    | tp h1 h2 => exact .tp h1 (ROks.th h rs z h2)
theorem ROks.th (h : ∀ m, m ≠ n → θ' m = θ m) : ∀ (rs : List R) {vs : List V}, rNos n rs = true → ROks K H θ vs rs → ROks K H θ' vs rs
  | [], vs, _, q => by cases q; exact .nil
  | r :: rs, vs, z, q => by
    rw [rNos, Bool.and_eq_true] at z
    cases q with
    | cons h1 h2 => exact .cons (ROk.th h r z.1 h1) (ROks.th h rs z.2 h2)
end
mutual
theorem ROk.sub {d : D} (h : Rp K H (.ref (θ n)) d) : ∀ (r : R) {v : V}, ROk K H θ v r → ROk K H θ v (rSub n d r)
  | .fz d, v, q => by rw [rSub]; exact q
  | .rf m, v, q => by
    cases q
    rw [rSub]
    by_cases e : m = n
    · rw [if_pos e, e]
      exact .fz h
    · rw [if_neg e]
      exact .rf m
  | .tp rs, v, q => by
    rw [rSub]
    cases q with
    | tp h1 h2 => exact .tp h1 (ROks.sub h rs h2)
theorem ROks.sub {d : D} (h : Rp K H (.ref (θ n)) d) : ∀ (rs : List R) {vs : List V}, ROks K H θ vs rs → ROks K H θ vs (rSubs n d rs)
  | [], vs, q => by cases q; rw [rSubs]; exact .nil
  | r :: rs, vs, q => by
    rw [rSubs]
    cases q with
    | cons h1 h2 => exact .cons (ROk.sub h r h1) (ROks.sub h rs h2)
end
theorem NdOk.th {Hv : Hp} {p : Addr} {w : List Addr} {x : Nd} (h : ∀ m, m ≠ n → θ' m = θ m) (z : ndNo n x = true) (q : NdOk K H Hv θ p w x) : NdOk K H Hv θ' p w x := by
  cases x with
  | lst rs => obtain ⟨xs, h1, h2⟩ := q; exact ⟨xs, h1, h2.th h rs z⟩
  | dct ks rs => obtain ⟨xs, h1, h2, h3⟩ := q; exact ⟨xs, h1, h2, h3.th h rs z⟩
  | obj qa y fs rs => obtain ⟨dx, xs, h0, h1, h2, h3⟩ := q; exact ⟨dx, xs, h0, h1, h2, h3.th h rs z⟩
  | ll dss => exact q
theorem NdOk.sub {Hv : Hp} {p : Addr} {w : List Addr} {x : Nd} {d : D} (h : Rp K Hv (.ref (θ n)) d) (q : NdOk K H Hv θ p w x) : NdOk K H Hv θ p w (ndSub n d x) := by
  cases x with
  | lst rs => obtain ⟨xs, h1, h2⟩ := q; exact ⟨xs, h1, h2.sub h rs⟩
  | dct ks rs => obtain ⟨xs, h1, h2, h3⟩ := q; exact ⟨xs, h1, h2, h3.sub h rs⟩
  | obj qa y fs rs => obtain ⟨dx, xs, h0, h1, h2, h3⟩ := q; exact ⟨dx, xs, h0, h1, h2, h3.sub h rs⟩
  | ll dss => exact q
end
theorem noE_at {n i : Nat} {E : En} {s : Sl} (h : noE n E = true) (e : E[i]? = some s) : slNo n s = true := List.all_eq_true.mp h s (List.mem_of_getElem? e)
section
variable {K : PySem.W.Frag} {hid O : AS} {B H H' : Hp} {σ : L2.St} {E : En} {n : Nat}
/-- a new node, held by no slot yet -/
theorem RE.newN (r : RE K hid O B H σ E) {p : Addr} {w : List Addr} {x : Nd} (hp : ∀ a ∈ p :: w, H a = none) (e : Ex H H') (hx : ∀ a ∈ p :: w, IsM H' a) (no : noE n E = true) (ok : ∀ θ, NdOk K H' (rem (orS hid (orS O (· ∈ p :: w))) H') θ p w x) :
    ∃ θ ω, NodW K hid (orS O (· ∈ p :: w)) H' σ (E.set n (.nd x)) θ ω ∧ θ n = p ∧ RE K hid (orS O (· ∈ p :: w)) B H' σ (E.set n (.nd x)) := by
  have fr : ∀ a ∈ p :: w, ¬ O a := fun a ha z => r.fresh (hp a ha) (.inr z)
  have vis : Ex (rem (orS hid O) H) (rem (orS hid (orS O (· ∈ p :: w))) H') := fun a o q => by
    obtain ⟨z1, z2⟩ := rem_some.mp q
    refine rem_some.mpr ⟨fun z => ?_, e a o z2⟩
    rcases z with z | z | z
    · exact z1 (.inl z)
    · exact z1 (.inr z)
    · rw [hp a z] at z2
      cases z2
  obtain ⟨θ, ω, N⟩ := r.nod
  have hth : ∀ m, m ≠ n → (fun m => if m = n then p else θ m) m = θ m := fun m z => if_neg z
  have NW : NodW K hid (orS O (· ∈ p :: w)) H' σ (E.set n (.nd x)) (fun m => if m = n then p else θ m) (fun m => if m = n then w else ω m) := by
    refine ⟨fun m y q => ?_, fun m m' y y' d q1 q2 a ha hb => ?_, fun i t q => ?_, fun i m ds y q' q1 q2 s1 z => ?_⟩
    · rcases set_at q with ⟨z, z2⟩ | ⟨z, q⟩
      · cases z2
        rw [if_pos z.symm, if_pos z.symm]
        exact ⟨fun a ha => .inr ha, ok _⟩
      · have z' : ¬ m = n := fun y => z y.symm
        rw [if_neg z', if_neg z']
        obtain ⟨k1, k2⟩ := N.nd m y q
        exact ⟨fun a ha => .inl (k1 a ha), (k2.mono (fun a ha o h => e a o h) vis).th hth (noE_at no q)⟩
    · rcases set_at q1 with ⟨z, z2⟩ | ⟨z, q1⟩ <;> rcases set_at q2 with ⟨u, u2⟩ | ⟨u, q2⟩
      · exact d (z.symm.trans u)
      · have u' : ¬ m' = n := fun y => u y.symm
        simp only [if_pos z.symm] at ha
        simp only [if_neg u'] at hb
        exact fr a ha ((N.nd m' y' q2).1 a hb)
      · have z' : ¬ m = n := fun y => z y.symm
        simp only [if_pos u.symm] at hb
        simp only [if_neg z'] at ha
        exact fr a hb ((N.nd m y q1).1 a ha)
      · have z' : ¬ m = n := fun y => z y.symm
        have u' : ¬ m' = n := fun y => u y.symm
        simp only [if_neg z'] at ha
        simp only [if_neg u'] at hb
        exact N.inj m m' y y' d q1 q2 a ha hb
    · rcases set_at q with ⟨z, z2⟩ | ⟨z, q⟩
      · cases z2
      · obtain ⟨v, k1, k2⟩ := N.rt i t q
        exact ⟨v, k1, (k2.mono vis t).th hth t (noE_at no q)⟩
    · rcases set_at q1 with ⟨u, u2⟩ | ⟨u, q1⟩
      · cases u2
      obtain ⟨q2', xs, k1, k2, _⟩ := r.ow i ds q1
      rw [s1] at k1
      cases k1
      rcases set_at q2 with ⟨u, u2⟩ | ⟨u, q2⟩
      · simp only [if_pos u.symm] at z
        exact fr _ z k2
      · have u' : ¬ m = n := fun y => u y.symm
        simp only [if_neg u'] at z
        exact N.dis i m ds y _ q1 q2 s1 z
  refine ⟨_, _, NW, if_pos rfl, ⟨fun a o q => ⟨e a o (r.base a o q).1, fun z => ?_⟩, fun a z => ?_, r.hidd, ?_, fun i d q => ?_, fun i es q => ?_, fun i k q es fs hik q1 q2 s1 s2 => ?_, ⟨_, _, NW⟩⟩⟩
  · rcases z with z | z
    · exact (r.base a o q).2 z
    · have := hp a z
      rw [(r.base a o q).1] at this
      cases this
  · rcases z with z | z
    · exact ⟨(r.own a z).1, (r.own a z).2.mono e⟩
    · exact ⟨fun y => r.fresh (hp a z) (.inl y), hx a z⟩
  · rw [List.length_set]
    exact r.len
  · rcases set_at q with ⟨_, z⟩ | ⟨_, q⟩
    · cases z
    obtain ⟨v, h1, h2⟩ := r.fz i d q
    exact ⟨v, h1, h2.mono vis d⟩
  · rcases set_at q with ⟨_, z⟩ | ⟨_, q⟩
    · cases z
    obtain ⟨q', ys, h1, h2, h3, h4⟩ := r.ow i es q
    exact ⟨q', ys, h1, .inl h2, e _ _ h3, h4.mono vis es⟩
  · rcases set_at q1 with ⟨_, z⟩ | ⟨_, q1⟩
    · cases z
    rcases set_at q2 with ⟨_, z⟩ | ⟨_, q2⟩
    · cases z
    exact r.dis i k q es fs hik q1 q2 s1 s2
/-- a slot names data with owned objects in it -/
theorem RE.putR (r : RE K hid O B H σ E) {θ : Nat → Addr} {ω : Nat → List Addr} (N : NodW K hid O H σ E θ ω) {v : V} {t : R} (j : Nat) (h : ROk K (rem (orS hid O) H) θ v t) : RE K hid O B H (σ.set j (some v)) (E.set j (.rt t)) where
  base := r.base
  own := r.own
  hidd := r.hidd
  len := by rw [List.length_set, List.length_set]; exact r.len
  fz := fun i d' q => by
    rcases set_at q with ⟨rfl, e⟩ | ⟨e, q⟩
    · cases e
    · rw [List.getElem?_set_ne e]
      exact r.fz i d' q
  ow := fun i ds q => by
    rcases set_at q with ⟨rfl, e⟩ | ⟨e, q⟩
    · cases e
    · rw [List.getElem?_set_ne e]
      exact r.ow i ds q
  dis := fun i k p ds es hik q1 q2 s1 s2 => by
    rcases set_at q1 with ⟨rfl, e⟩ | ⟨n1, q1⟩
    · cases e
    rcases set_at q2 with ⟨rfl, e⟩ | ⟨n2, q2⟩
    · cases e
    rw [List.getElem?_set_ne n1] at s1
    rw [List.getElem?_set_ne n2] at s2
    exact r.dis i k p ds es hik q1 q2 s1 s2
  nod := by
    have c1 : ∀ (n : Nat) (x : Nd), (E.set j (.rt t))[n]? = some (Sl.nd x) → E[n]? = some (Sl.nd x) := fun n x q => by
      rcases set_at q with ⟨rfl, e⟩ | ⟨e, q⟩
      · cases e
      · exact q
    refine ⟨θ, ω, fun n x q => N.nd n x (c1 n x q), fun n m x y d q1 q2 => N.inj n m x y d (c1 n x q1) (c1 m y q2), fun i u q => ?_, fun i n ds x p q1 q2 s1 => ?_⟩
    · have hl : i < E.length := by
        have := (List.getElem?_eq_some_iff.mp q).1
        rwa [List.length_set] at this
      rcases set_at q with ⟨rfl, e⟩ | ⟨e, q⟩
      · cases e
        exact ⟨v, List.getElem?_set_self (r.len ▸ hl), h⟩
      · rw [List.getElem?_set_ne e]
        exact N.rt i u q
    · rcases set_at q1 with ⟨rfl, e⟩ | ⟨e, q1⟩
      · cases e
      · rw [List.getElem?_set_ne e] at s1
        exact N.dis i n ds x p q1 (c1 n x q2) s1
/-- a node changes -/
theorem RE.chgN (r : RE K hid O B H σ E) {θ : Nat → Addr} {ω : Nat → List Addr} (N : NodW K hid O H σ E θ ω) {x x' : Nd} {a : Addr} {ob : HO} (hn : E[n]? = some (.nd x)) (ha : a ∈ θ n :: ω n) (mu : MutO ob)
    (ok : NdOk K (upd H a ob) (rem (orS hid O) (upd H a ob)) θ (θ n) (ω n) x') : RE K hid O B (upd H a ob) σ (E.set n (.nd x')) := by
  have hO := (N.nd n x hn).1 a ha
  have vis : Ex (rem (orS hid O) H) (rem (orS hid O) (upd H a ob)) := rem_upd (.inr hO)
  have eo : ∀ b o, b ≠ a → H b = some o → upd H a ob b = some o := fun b o n q => by rw [upd_ne n]; exact q
  have c1 : ∀ (m : Nat) (y : Nd), m ≠ n → (E.set n (.nd x'))[m]? = some (Sl.nd y) → E[m]? = some (Sl.nd y) := fun m y d q => by
    rcases set_at q with ⟨z, e⟩ | ⟨e, q⟩
    · exact absurd z.symm d
    · exact q
  have c2 : ∀ (m : Nat) (y : Nd), (E.set n (.nd x'))[m]? = some (Sl.nd y) → ∃ y', E[m]? = some (Sl.nd y') := fun m y q => by
    rcases set_at q with ⟨z, e⟩ | ⟨e, q⟩
    · exact ⟨x, z ▸ hn⟩
    · exact ⟨y, q⟩
  refine ⟨fun b o q => ⟨eo b o (fun z => (r.base b o q).2 (z ▸ hO)) (r.base b o q).1, (r.base b o q).2⟩, fun b z => ⟨(r.own b z).1, ?_⟩, r.hidd, ?_, fun i d q => ?_, fun i es q => ?_, fun i k q es fs hik q1 q2 s1 s2 => ?_, ⟨θ, ω, fun m y q => ?_, fun m m' y y' d q1 q2 => ?_, fun i u q => ?_, fun i m ds y p q1 q2 s1 => ?_⟩⟩
  · by_cases e : b = a
    · subst e
      exact ⟨_, upd_same, mu⟩
    · obtain ⟨o, q, m⟩ := (r.own b z).2
      exact ⟨o, eo b _ e q, m⟩
  · rw [List.length_set]
    exact r.len
  · rcases set_at q with ⟨_, z⟩ | ⟨_, q⟩
    · cases z
    obtain ⟨v, h1, h2⟩ := r.fz i d q
    exact ⟨v, h1, h2.mono vis d⟩
  · rcases set_at q with ⟨_, z⟩ | ⟨_, q⟩
    · cases z
    obtain ⟨q', ys, h1, h2, h3, h4⟩ := r.ow i es q
    exact ⟨q', ys, h1, h2, eo _ _ (fun z => N.dis i n es x q' q hn h1 (z ▸ ha)) h3, h4.mono vis es⟩
  · rcases set_at q1 with ⟨_, z⟩ | ⟨_, q1⟩
    · cases z
    rcases set_at q2 with ⟨_, z⟩ | ⟨_, q2⟩
    · cases z
    exact r.dis i k q es fs hik q1 q2 s1 s2
  · rcases set_at q with ⟨z, e⟩ | ⟨e, q⟩
    · subst z
      cases e
      exact ⟨(N.nd n x hn).1, ok⟩
    · obtain ⟨k1, k2⟩ := N.nd m y q
      exact ⟨k1, k2.mono (fun b hb o z => eo b o (fun w => N.inj n m x y e hn q a ha (w ▸ hb)) z) vis⟩
  · obtain ⟨z1, e1⟩ := c2 m y q1
    obtain ⟨z2, e2⟩ := c2 m' y' q2
    exact N.inj m m' z1 z2 d e1 e2
  · rcases set_at q with ⟨_, z⟩ | ⟨_, q⟩
    · cases z
    obtain ⟨v, k1, k2⟩ := N.rt i u q
    exact ⟨v, k1, k2.mono vis u⟩
  · rcases set_at q1 with ⟨_, z⟩ | ⟨_, q1⟩
    · cases z
    obtain ⟨z2, e2⟩ := c2 m y q2
    exact N.dis i m ds z2 p q1 e2 s1
@[simp] def ndD : Nd → Option D
  | .ll dss => some (.lst (dss.map .lst))
  | x => ndT x
theorem LLs.rp {K : PySem.W.Frag} {H Hv : Hp} : ∀ {qs : List Addr} {dss : List (List D)}, LLs K H Hv qs dss → (∀ a ∈ qs, ∀ o, H a = some o → Hv a = some o) → RpL K Hv (qs.map V.ref) (dss.map .lst)
  | [], [], _, _ => .nil
  | q :: qs, ds :: dss, h, e => by
    obtain ⟨xs, h1, h2⟩ := h.1
    exact .cons (.lst (e q (List.mem_cons_self ..) _ h1) h2) (LLs.rp (qs := qs) (dss := dss) h.2 fun a ha => e a (List.mem_cons_of_mem _ ha))
  | [], _ :: _, h, _ => h.elim
  | _ :: _, [], h, _ => h.elim
theorem sub_at {n i : Nat} {d : D} {E : En} {s : Sl} (h : (subE n d E)[i]? = some s) (hs : s ≠ .un) : i ≠ n ∧ ∃ s0, E[i]? = some s0 ∧ slSub n d s0 = s := by
  rcases set_at h with ⟨z, e⟩ | ⟨e, q⟩
  · exact absurd e.symm hs
  · rw [List.getElem?_map] at q
    obtain ⟨s0, q1, q2⟩ := map_some q
    exact ⟨fun z => e z.symm, s0, q1, q2⟩
theorem slSub_fz {n : Nat} {d e : D} {s : Sl} (h : slSub n d s = .fz e) : s = .fz e := by cases s <;> first | exact h | cases h
theorem slSub_ow {n : Nat} {d : D} {e : List D} {s : Sl} (h : slSub n d s = .ow e) : s = .ow e := by cases s <;> first | exact h | cases h
theorem slSub_rt {n : Nat} {d : D} {e : R} {s : Sl} (h : slSub n d s = .rt e) : ∃ r, s = .rt r ∧ rSub n d r = e := by
  cases s <;> first | (cases h; done) | skip
  case rt r => cases h; exact ⟨r, rfl, rfl⟩
theorem slSub_nd {n : Nat} {d : D} {e : Nd} {s : Sl} (h : slSub n d s = .nd e) : ∃ r, s = .nd r ∧ ndSub n d r = e := by
  cases s <;> first | (cases h; done) | skip
  case nd r => cases h; exact ⟨r, rfl, rfl⟩
/-- a node becomes like any other value -/
theorem RE.frzN (r : RE K hid O B H σ E) {x : Nd} {d : D} (hn : E[n]? = some (.nd x)) (hx : ndD x = some d) : ∃ O', RE K hid O' B H σ (subE n d E) := by
  obtain ⟨θ, ω, N⟩ := r.nod
  obtain ⟨ho, hk⟩ := N.nd n x hn
  have vis : Ex (rem (orS hid O) H) (rem (orS hid fun a => O a ∧ a ∉ θ n :: ω n) H) := rem_sub fun a z => z.elim .inl fun z => .inr z.1
  have me : ∀ a ∈ θ n :: ω n, ∀ o, H a = some o → rem (orS hid fun a => O a ∧ a ∉ θ n :: ω n) H a = some o := fun a ha o q => rem_some.mpr ⟨fun z => by
    rcases z with z | z
    · exact (r.own a (ho a ha)).1 z
    · exact z.2 ha, q⟩
  have hd : Rp K (rem (orS hid fun a => O a ∧ a ∉ θ n :: ω n) H) (.ref (θ n)) d := by
    have m0 := me _ (List.mem_cons_self ..)
    cases x with
    | lst rs =>
      obtain ⟨ds, e1, rfl⟩ := map_some hx
      obtain ⟨xs, k1, k2⟩ := hk
      exact .lst (m0 _ k1) ((closeds_ok rs k2 e1).mono vis _)
    | dct ks rs =>
      obtain ⟨ds, e1, rfl⟩ := map_some hx
      obtain ⟨xs, k1, k2, k3⟩ := hk
      exact .dct (m0 _ k1) k2 ((closeds_ok rs k3 e1).mono vis _)
    | obj qa y fs rs =>
      obtain ⟨ds, e1, rfl⟩ := map_some hx
      obtain ⟨dx, xs, _, k1, k2, k3⟩ := hk
      exact .obj (m0 _ k1) k2 ((closeds_ok rs k3 e1).mono vis _)
    | ll dss =>
      cases hx
      obtain ⟨k1, k2, k3, k4⟩ := hk
      exact .lst (m0 _ k1) ((k4.mono (fun a ha o z => z) vis).rp fun a ha o z => me a (List.mem_cons_of_mem _ ha) o z)
  refine ⟨fun a => O a ∧ a ∉ θ n :: ω n, fun a o q => ⟨(r.base a o q).1, fun z => (r.base a o q).2 z.1⟩, fun a z => r.own a z.1, r.hidd, ?_, fun i e q => ?_, fun i es q => ?_, fun i k q es fs hik q1 q2 s1 s2 => ?_, ⟨θ, ω, fun m y q => ?_, fun m m' y y' dd q1 q2 => ?_, fun i u q => ?_, fun i m ds y p q1 q2 s1 => ?_⟩⟩
  · rw [subE, List.length_set, List.length_map]
    exact r.len
  · obtain ⟨_, s0, z1, z2⟩ := sub_at q (fun z => by cases z)
    cases slSub_fz z2
    obtain ⟨v, h1, h2⟩ := r.fz i e z1
    exact ⟨v, h1, h2.mono vis e⟩
  · obtain ⟨_, s0, z1, z2⟩ := sub_at q (fun z => by cases z)
    cases slSub_ow z2
    obtain ⟨q', ys, h1, h2, h3, h4⟩ := r.ow i es z1
    exact ⟨q', ys, h1, ⟨h2, fun z => N.dis i n es x q' z1 hn h1 z⟩, h3, h4.mono vis es⟩
  · obtain ⟨_, s0, z1, z2⟩ := sub_at q1 (fun z => by cases z)
    cases slSub_ow z2
    obtain ⟨_, s0, z3, z4⟩ := sub_at q2 (fun z => by cases z)
    cases slSub_ow z4
    exact r.dis i k q es fs hik z1 z3 s1 s2
  · obtain ⟨z0, s0, z1, z2⟩ := sub_at q (fun z => by cases z)
    obtain ⟨y0, rfl, rfl⟩ := slSub_nd z2
    obtain ⟨k1, k2⟩ := N.nd m y0 z1
    exact ⟨fun a ha => ⟨k1 a ha, fun z => N.inj n m x y0 (fun w => z0 w.symm) hn z1 a z ha⟩, (k2.mono (fun a ha o z => z) vis).sub hd⟩
  · obtain ⟨_, s0, z1, z2⟩ := sub_at q1 (fun z => by cases z)
    obtain ⟨y0, rfl, rfl⟩ := slSub_nd z2
    obtain ⟨_, s0, z3, z4⟩ := sub_at q2 (fun z => by cases z)
    obtain ⟨y1, rfl, rfl⟩ := slSub_nd z4
    exact N.inj m m' y0 y1 dd z1 z3
  · obtain ⟨_, s0, z1, z2⟩ := sub_at q (fun z => by cases z)
    obtain ⟨u0, rfl, rfl⟩ := slSub_rt z2
    obtain ⟨v, k1, k2⟩ := N.rt i u0 z1
    exact ⟨v, k1, (k2.mono vis u0).sub hd u0⟩
  · obtain ⟨_, s0, z1, z2⟩ := sub_at q1 (fun z => by cases z)
    cases slSub_ow z2
    obtain ⟨_, s0, z3, z4⟩ := sub_at q2 (fun z => by cases z)
    obtain ⟨y1, rfl, rfl⟩ := slSub_nd z4
    exact N.dis i m ds y1 p z1 z3 s1
end
end Sx

set_option Elab.async false
set_option linter.all false
set_option maxRecDepth 100000
set_option maxHeartbeats 1000000
namespace Sx
open PySem PySem.Spec PyProof.Rows L2
open Evl (Ex)

/-! ### two readings of one text -/
theorem PE.or {X : Cx} {e : Expr} {t u : TE} (h : PE X e t) (g : PE X e u) : PE X e (fun σ H Q => t σ H Q ∨ u σ H Q) := ⟨fun pins s σ H Q I q => q.elim (h.run pins s σ H Q I) (g.run pins s σ H Q I)⟩
theorem PT.or {X : Cx} {e : Expr} {t u : TT} (h : PT X e t) (g : PT X e u) : PT X e (fun σ H Q => t σ H Q ∨ u σ H Q) := ⟨fun pins s σ H Q I q => q.elim (h.run pins s σ H Q I) (g.run pins s σ H Q I)⟩
theorem PS.or {X : Cx} {e : Stmt} {t u : TS} (h : PS X e t) (g : PS X e u) : PS X e (fun Dn σ H => t Dn σ H ∨ u Dn σ H) := ⟨fun pins s σ H Q I q => q.elim (h.run pins s σ H Q I) (g.run pins s σ H Q I)⟩
/-- what is never reached -/
@[simp] def mNever : En → Option Out := fun _ => none
theorem ds_never {X : Cx} {st : Stmt} : DS X st mNever := ⟨fun _ _ _ => False, ⟨fun pins s σ H Q I q => q.elim⟩, fun hid O B H σ E o Dn r hm k => by cases hm⟩

/-! ### tables -/
section
variable {κ α β : Type} [DecidableEq κ]
def atK : List κ → List α → κ → Option α
  | k :: ks, x :: xs, j => if k = j then some x else atK ks xs j
  | _, _, _ => none
def memK (k : κ) (ks : List κ) : Bool := decide (k ∈ ks)
def putKey (ks : List κ) (k : κ) : List κ := if k ∈ ks then ks else ks ++ [k]
def putVal (ks : List κ) (xs : List α) (k : κ) (y : α) : List α := if k ∈ ks then List.zipWith (fun j x => if j = k then y else x) ks xs else xs ++ [y]
theorem valV_zip (k : κ) : ∀ (ks : List κ) (xs : List V), valV (ks.zip xs) k = atK ks xs k
  | [], xs => by cases xs <;> rfl
  | j :: ks, [] => rfl
  | j :: ks, x :: xs => by
    rw [List.zip_cons_cons, atK]
    by_cases h : j = k
    · rw [valV_pos h, if_pos h]
    · rw [valV_neg h, if_neg h, valV_zip k ks xs]
theorem any_zip (k : κ) : ∀ (ks : List κ) (xs : List V), ks.length = xs.length → ((ks.zip xs).any fun kv => decide (kv.1 = k)) = decide (k ∈ ks)
  | [], xs, _ => by cases xs <;> rfl
  | j :: ks, [], h => by cases h
  | j :: ks, x :: xs, h => by
    rw [List.zip_cons_cons, List.any_cons, any_zip k ks xs (Nat.succ.inj h)]
    by_cases e : j = k
    · simp [e]
    · have e' : ¬ k = j := fun z => e z.symm
      simp [e, e']
theorem map_zip (k : κ) (y : V) : ∀ (ks : List κ) (xs : List V), (ks.zip xs).map (fun kv => if kv.1 = k then (kv.1, y) else kv) = ks.zip (List.zipWith (fun j x => if j = k then y else x) ks xs)
  | [], xs => by cases xs <;> rfl
  | j :: ks, [] => rfl
  | j :: ks, x :: xs => by
    rw [List.zip_cons_cons, List.map_cons, map_zip k y ks xs, List.zipWith_cons_cons, List.zip_cons_cons]
    by_cases e : j = k
    · simp [e]
    · simp [e]
theorem putK_zip (k : κ) (y : V) (ks : List κ) (xs : List V) (h : ks.length = xs.length) : putK (ks.zip xs) k y = (putKey ks k).zip (putVal ks xs k y) := by
  unfold putK putKey putVal
  rw [any_zip k ks xs h]
  by_cases e : k ∈ ks
  · rw [if_pos (decide_eq_true e), if_pos e, if_pos e, map_zip]
  · rw [if_neg (by simpa using e), if_neg e, if_neg e, List.zip_append h]
    rfl
theorem put_len (k : κ) (y : α) (ks : List κ) (xs : List α) (h : ks.length = xs.length) : (putKey ks k).length = (putVal ks xs k y).length := by
  unfold putKey putVal
  by_cases e : k ∈ ks
  · rw [if_pos e, if_pos e, List.length_zipWith]
    omega
  · rw [if_neg e, if_neg e, List.length_append, List.length_append, h]
    rfl
theorem atK_rp {K : PySem.W.Frag} {H : Hp} {k : κ} {d : D} : ∀ {ks : List κ} {xs : List V} {ds : List D}, RpL K H xs ds → atK ks ds k = some d → ∃ v, atK ks xs k = some v ∧ Rp K H v d
  | [], xs, ds, _, e => by cases ds <;> cases e
  | j :: ks, xs, [], h, e => by cases e
  | j :: ks, xs, d' :: ds, h, e => by
    cases h with
    | cons h1 h2 =>
      rw [atK] at e
      by_cases z : j = k
      · rw [if_pos z] at e
        cases e
        exact ⟨_, by rw [atK, if_pos z], h1⟩
      · rw [if_neg z] at e
        obtain ⟨v, g1, g2⟩ := atK_rp h2 e
        exact ⟨v, by rw [atK, if_neg z]; exact g1, g2⟩
theorem atK_no {κ : Type} [DecidableEq κ] {K : PySem.W.Frag} {H : Hp} {k : κ} : ∀ {ks : List κ} {xs : List V} {ds : List D}, RpL K H xs ds → atK ks ds k = none → atK ks xs k = none
  | [], xs, ds, _, _ => by cases xs <;> rfl
  | j :: ks, xs, [], h, _ => by cases h; rfl
  | j :: ks, xs, d :: ds, h, e => by
    cases h with
    | cons h1 h2 =>
      rw [atK] at e
      by_cases z : j = k
      · rw [if_pos z] at e
        cases e
      · rw [if_neg z] at e
        rw [atK, if_neg z]
        exact atK_no h2 e
theorem atK_isSome {k : κ} : ∀ {ks : List κ} {xs : List α}, ks.length = xs.length → (atK ks xs k).isSome = memK k ks
  | [], [], _ => rfl
  | j :: ks, x :: xs, h => by
    rw [atK]
    by_cases z : j = k
    · rw [if_pos z]
      simp [z, memK]
    · have z' : ¬ k = j := fun w => z w.symm
      rw [if_neg z, atK_isSome (Nat.succ.inj h)]
      simp [z', memK]
  | [], _ :: _, h => by cases h
  | _ :: _, [], h => by cases h
theorem zipR {K : PySem.W.Frag} {H : Hp} {θ : Nat → Addr} {k : κ} {y : V} {t : R} (hy : ROk K H θ y t) : ∀ {ks : List κ} {xs : List V} {rs : List R}, ROks K H θ xs rs → ROks K H θ (List.zipWith (fun j x => if j = k then y else x) ks xs) (List.zipWith (fun j x => if j = k then t else x) ks rs)
  | [], xs, rs, _ => by cases xs <;> cases rs <;> exact .nil
  | j :: ks, xs, [], h => by cases h; exact .nil
  | j :: ks, xs, r :: rs, h => by
    cases h with
    | cons h1 h2 =>
      rw [List.zipWith_cons_cons, List.zipWith_cons_cons]
      refine .cons ?_ (zipR hy h2)
      by_cases e : j = k
      · rw [if_pos e, if_pos e]; exact hy
      · rw [if_neg e, if_neg e]; exact h1
theorem ROks.app {K : PySem.W.Frag} {H : Hp} {θ : Nat → Addr} : ∀ {xs ys : List V} {rs ts : List R}, ROks K H θ xs rs → ROks K H θ ys ts → ROks K H θ (xs ++ ys) (rs ++ ts)
  | _, _, [], _, h, g => by cases h; exact g
  | _, _, r :: rs, _, h, g => by
    cases h with
    | cons h1 h2 => exact .cons h1 (h2.app g)
theorem putR_ok {K : PySem.W.Frag} {H : Hp} {θ : Nat → Addr} {k : κ} {y : V} {t : R} (hy : ROk K H θ y t) {ks : List κ} {xs : List V} {rs : List R} (h : ROks K H θ xs rs) : ROks K H θ (putVal ks xs k y) (putVal ks rs k t) := by
  unfold putVal
  by_cases e : k ∈ ks
  · rw [if_pos e, if_pos e]; exact zipR hy h
  · rw [if_neg e, if_neg e]; exact h.app (.cons hy .nil)
end
theorem ROks.length {K : PySem.W.Frag} {H : Hp} {θ : Nat → Addr} : ∀ {vs : List V} {rs : List R}, ROks K H θ vs rs → vs.length = rs.length
  | _, [], h => by cases h; rfl
  | _, r :: rs, h => by
    cases h with
    | cons h1 h2 => exact congrArg Nat.succ h2.length
theorem lookup_zip (f : Str) : ∀ (fs : List Str) (xs : List V), (fs.zip xs).lookup f = atK fs xs f
  | [], xs => by cases xs <;> rfl
  | g :: fs, [] => rfl
  | g :: fs, x :: xs => by
    rw [List.zip_cons_cons, atK, List.lookup_cons, lookup_zip f fs xs]
    by_cases h : g = f
    · subst h
      simp
    · have h' : ¬ f = g := fun z => h z.symm
      rw [if_neg h, beq_false_of_ne h']
theorem putF_new (f : Str) (y : V) : ∀ (fs : List Str) (xs : List V), fs.length = xs.length → f ∉ fs → putF f y (fs.zip xs) = (fs ++ [f]).zip (xs ++ [y])
  | [], [], _, _ => rfl
  | g :: fs, x :: xs, h, n => by
    have e : ¬ g = f := fun z => n (z ▸ List.mem_cons_self ..)
    rw [List.zip_cons_cons, putF, if_neg e, putF_new f y fs xs (Nat.succ.inj h) (fun z => n (List.mem_cons_of_mem _ z))]
    rfl
  | [], _ :: _, h, _ => by cases h
  | _ :: _, [], h, _ => by cases h

/-! ### dicts, read -/
@[simp] def keyD : D → Option Key
  | .int i => some (.inl i)
  | .str x => some (.inr x)
  | _ => none
theorem keyD_tv {K : PySem.W.Frag} {hid O : AS} {H : Hp} {v : V} {d : D} {k : Key} (rv : Tv K hid O H v d) (h : keyD d = some k) : v = kV k := by
  unfold keyD at h
  split at h
  · cases h; rw [rv.int]; rfl
  · cases h; rw [rv.str]; rfl
  · cases h
section
variable {X : Cx} {e a b : Expr} {ma mb : En → Option D} {pos : Pos} {A : Around} {kk : Nat}
theorem hu_of {A : Around} (hr : Room kk A) (hA : X.A = A) : X.A.units + 1 < cLine := by
  rw [hA]
  have := hr.units
  omega
theorem keyD_rp {K : PySem.W.Frag} {H : Hp} {v : V} {d : D} {k : Key} (rv : Rp K H v d) (h : keyD d = some k) : v = kV k := by
  unfold keyD at h
  split at h
  · cases h; cases rv; rfl
  · cases h; cases rv; rfl
  · cases h
@[simp] def keysDs : List D → Option (List Key)
  | [] => some []
  | d :: ds => (keyD d).bind fun k => (keysDs ds).map (k :: ·)
@[simp] def keyTD : D → Option (List Key)
  | .tup ds => keysDs ds
  | _ => none
theorem keysDs_rp {K : PySem.W.Frag} {H : Hp} : ∀ {ds : List D} {xs : List V} {ks : List Key}, RpL K H xs ds → keysDs ds = some ks → xs = ks.map kV
  | [], xs, ks, h, e => by
    cases h
    cases e
    rfl
  | d :: ds, xs, ks, h, e => by
    cases h with
    | cons h1 h2 =>
      rw [keysDs] at e
      obtain ⟨k, e1, e⟩ := bind_some e
      obtain ⟨ks', e2, rfl⟩ := map_some e
      rw [keysDs_rp h2 e2, keyD_rp h1 e1]
      rfl
/-- the entry at a key, its value seen -/
@[simp] def atKS : KS → List D → D → Option (Option D)
  | .k ks, ds, y => (keyD y).map (atK ks ds)
  | .t ks, ds, y => (keyTD y).map (atK ks ds)
@[simp] def inKS : KS → D → Option Bool
  | .k ks, y => (keyD y).map fun k => memK k ks
  | .t ks, y => (keyTD y).map fun k => memK k ks
@[simp] def ixD2 : D → D → Option D
  | .dct ks ds, y => (atKS ks ds y).bind id
  | x, y => ixD x y
theorem dget_tv {K : PySem.W.Frag} {hid O : AS} {H Hv : Hp} {p : Addr} {v : V} {ks : KS} {xs : List V} {ds : List D} {y : D} {o : Option D} (rv : Tv K hid O H v y) (h1 : H p = some (ks.ho xs)) (h3 : RpL K Hv xs ds) (e : atKS ks ds y = some o) : ∃ ov, DGet H p v ov ∧ (∀ d, o = some d → ∃ w, ov = some w ∧ Rp K Hv w d) ∧ (o = none → ov = none) := by
  cases ks with
  | k ks =>
    obtain ⟨k, e1, rfl⟩ := map_some e
    obtain rfl := keyD_tv rv e1
    refine ⟨_, DGet.k h1, fun d hd => ?_, fun hn => ?_⟩
    · obtain ⟨w, w1, w2⟩ := atK_rp h3 hd
      exact ⟨w, by rw [valV_zip]; exact w1, w2⟩
    · rw [valV_zip]
      exact atK_no h3 hn
  | t ks =>
    obtain ⟨k, e1, rfl⟩ := map_some e
    unfold keyTD at e1
    split at e1
    · obtain ⟨b, zs, rfl, g1, g2⟩ := rv.tup
      have := keysDs_rp g2 e1
      subst this
      refine ⟨_, DGet.t h1 (rem_some.mp g1).2, fun d hd => ?_, fun hn => ?_⟩
      · obtain ⟨w, w1, w2⟩ := atK_rp h3 hd
        exact ⟨w, by rw [valV_zip]; exact w1, w2⟩
      · rw [valV_zip]
        exact atK_no h3 hn
    · cases e1
theorem din_tv {K : PySem.W.Frag} {hid O : AS} {H Hv : Hp} {p : Addr} {v : V} {ks : KS} {xs : List V} {ds : List D} {y : D} {c : Bool} (rv : Tv K hid O H v y) (h1 : H p = some (ks.ho xs)) (h2 : ks.len = xs.length) (h3 : RpL K Hv xs ds) (e : inKS ks y = some c) : ∃ ov, DGet H p v ov ∧ ov.isSome = c := by
  cases ks with
  | k ks =>
    obtain ⟨k, e1, rfl⟩ := map_some e
    obtain rfl := keyD_tv rv e1
    exact ⟨_, DGet.k h1, by rw [valV_zip]; exact atK_isSome h2⟩
  | t ks =>
    obtain ⟨k, e1, rfl⟩ := map_some e
    unfold keyTD at e1
    split at e1
    · obtain ⟨b, zs, rfl, g1, g2⟩ := rv.tup
      have := keysDs_rp g2 e1
      subst this
      exact ⟨_, DGet.t h1 (rem_some.mp g1).2, by rw [valV_zip]; exact atK_isSome h2⟩
    · cases e1
/-- e[i] of a list, a tuple, a text, a dict -/
theorem de_ix2 (hr : Room kk A) (ha : DT X a ma) (hb : DT X b mb) (hA : X.A = A := by rfl) (hs : PlainIx b := by exact fun _ _ => rfl) (hs2 : NoSl b := by exact fun _ _ => rfl) : DE X (.Subscript a b pos) (mBin ixD2 ma mb) :=
  ⟨_, PE.or (pe_dget (hu_of hr hA) ha.pe hb.pe hs2) (pe_ix ix_seq ha.pe hb.pe hs), fun hid O B H σ E d re hm Q q => by
  obtain ⟨x, h1, hm⟩ := bind_some hm
  obtain ⟨y, h2, hm⟩ := bind_some hm
  unfold ixD2 at hm
  split at hm
  · obtain ⟨od, h3, h4⟩ := bind_some hm
    refine .inl (ha.si hid O B H σ E _ re h1 _ fun v H1 e1 r1 => ?_)
    refine hb.si hid O B H1 σ E y (re.grow e1) h2 _ fun u H2 e2 r2 => ?_
    obtain ⟨p, xs, rfl, g1, g2, g3⟩ := (r1.mono e2).dct
    obtain ⟨ov, o1, o2, _⟩ := dget_tv r2 g1 g3 h3
    obtain ⟨w, rfl, g5⟩ := o2 d h4
    exact ⟨p, w, rfl, o1, q w H2 (e1.trans e2) g5⟩
  · exact .inr (st_bin od_ix ha.si hb.si hid O B H σ E d re (by show (ma E).bind _ = _; rw [h1]; show (mb E).bind _ = _; rw [h2]; exact hm) Q q)⟩
@[simp] def dinD : D → D → Option Bool
  | y, .dct ks _ => inKS ks y
  | _, _ => none
theorem st_din {K : PySem.W.Frag} {ta tb : TE} {ma mb : En → Option D} (ha : ST K ta ma) (hb : ST K tb mb) {hid O : AS} {B H : Hp} {σ : L2.St} {E : En} {c : Bool} (re : RE K hid O B H σ E) {x y : D} (h1 : ma E = some x) (h2 : mb E = some y) (h3 : dinD x y = some c) {Q : Bool → Hp → Prop} (q : ∀ H', Ex H H' → Q c H') :
    ta σ H fun y H1 => tb σ H1 fun x H2 => ∃ a o, x = .ref a ∧ DGet H2 a y o ∧ Q o.isSome H2 := by
  unfold dinD at h3
  split at h3
  · refine ha hid O B H σ E _ re h1 _ fun v H1 e1 r1 => ?_
    refine hb hid O B H1 σ E _ (re.grow e1) h2 _ fun u H2 e2 r2 => ?_
    obtain ⟨p, xs, rfl, g1, g2, g3⟩ := r2.dct
    obtain ⟨ov, o1, o2⟩ := din_tv (r1.mono e2) g1 g2 g3 h3
    refine ⟨p, ov, rfl, o1, ?_⟩
    rw [o2]
    exact q H2 (e1.trans e2)
  · cases h3
@[simp] def inD2 : D → D → Option D
  | y, .dct ks ds => (dinD y (.dct ks ds)).map .bl
  | x, y => inD x y
@[simp] def notInD2 : D → D → Option D
  | y, .dct ks ds => (dinD y (.dct ks ds)).map fun c => .bl (!c)
  | x, y => notInD x y
theorem de_in2 (hr : Room kk A) (ha : DT X a ma) (hb : DT X b mb) (hA : X.A = A := by rfl) (hm : behindInMarks .In b = false := by first | exact nomark _ | with_unfolding_all rfl) : DE X (.Compare a [.In] [b] pos) (mBin inD2 ma mb) :=
  ⟨_, PE.or (pe_cmp (pc_din (hu_of hr hA) ha.pe hb.pe) hm) (pe_cmpR op_in_seq ha.pe hb.pe hm), fun hid O B H σ E d re hm Q q => by
  obtain ⟨x, h1, hm⟩ := bind_some hm
  obtain ⟨y, h2, hm⟩ := bind_some hm
  unfold inD2 at hm
  split at hm
  · obtain ⟨c, h3, rfl⟩ := map_some hm
    exact .inl (st_din ha.si hb.si re h1 h2 h3 (Q := fun c H => Q (.bl c) H) fun H' e => q _ H' e (.bl c))
  · exact .inr (st_bin od_in ha.si hb.si hid O B H σ E d re (by show (ma E).bind _ = _; rw [h1]; show (mb E).bind _ = _; rw [h2]; exact hm) Q q)⟩
theorem de_notIn2 (hr : Room kk A) (ha : DT X a ma) (hb : DT X b mb) (hA : X.A = A := by rfl) (hm : behindInMarks .NotIn b = false := by first | exact nomark _ | with_unfolding_all rfl) : DE X (.Compare a [.NotIn] [b] pos) (mBin notInD2 ma mb) :=
  ⟨_, PE.or (pe_cmp (pc_dnotin (hu_of hr hA) ha.pe hb.pe) hm) (pe_cmpR op_notIn_seq ha.pe hb.pe hm), fun hid O B H σ E d re hm Q q => by
  obtain ⟨x, h1, hm⟩ := bind_some hm
  obtain ⟨y, h2, hm⟩ := bind_some hm
  unfold notInD2 at hm
  split at hm
  · obtain ⟨c, h3, rfl⟩ := map_some hm
    exact .inl (st_din ha.si hb.si re h1 h2 h3 (Q := fun c H => Q (.bl (!c)) H) fun H' e => q _ H' e (.bl _))
  · exact .inr (st_bin od_notIn ha.si hb.si hid O B H σ E d re (by show (ma E).bind _ = _; rw [h1]; show (mb E).bind _ = _; rw [h2]; exact hm) Q q)⟩
theorem db_in2 (hr : Room kk A) (ha : DT X a ma) (hb : DT X b mb) (hA : X.A = A := by rfl) (hm : behindInMarks .In b = false := by first | exact nomark _ | with_unfolding_all rfl) : DB X (.Compare a [.In] [b] pos) (fun E => (mBin inD2 ma mb E).bind blOf) :=
  ⟨_, PT.or (pt_cmp (pc_din (hu_of hr hA) ha.pe hb.pe) hm) (pt_cmpR op_in_seq ha.pe hb.pe hm), fun hid O B H σ E d re hm Q q => by
  obtain ⟨z, hm, h0⟩ := bind_some hm
  obtain ⟨x, h1, hm⟩ := bind_some hm
  obtain ⟨y, h2, hm⟩ := bind_some hm
  cases blOf_some h0
  unfold inD2 at hm
  split at hm
  · obtain ⟨c, h3, h4⟩ := map_some hm
    cases h4
    exact .inl (st_din ha.si hb.si re h1 h2 h3 (Q := fun c H => ∃ b, V.bl c = .bl b ∧ Q b H) fun H' e => ⟨_, rfl, q H' e⟩)
  · exact .inr (st_bin od_in ha.si hb.si hid O B H σ E _ re (by show (ma E).bind _ = _; rw [h1]; show (mb E).bind _ = _; rw [h2]; exact hm) _ fun v H1 e1 r1 => by
      cases r1
      exact ⟨_, rfl, q H1 e1⟩)⟩
theorem db_notIn2 (hr : Room kk A) (ha : DT X a ma) (hb : DT X b mb) (hA : X.A = A := by rfl) (hm : behindInMarks .NotIn b = false := by first | exact nomark _ | with_unfolding_all rfl) : DB X (.Compare a [.NotIn] [b] pos) (fun E => (mBin notInD2 ma mb E).bind blOf) :=
  ⟨_, PT.or (pt_cmp (pc_dnotin (hu_of hr hA) ha.pe hb.pe) hm) (pt_cmpR op_notIn_seq ha.pe hb.pe hm), fun hid O B H σ E d re hm Q q => by
  obtain ⟨z, hm, h0⟩ := bind_some hm
  obtain ⟨x, h1, hm⟩ := bind_some hm
  obtain ⟨y, h2, hm⟩ := bind_some hm
  cases blOf_some h0
  unfold notInD2 at hm
  split at hm
  · obtain ⟨c, h3, h4⟩ := map_some hm
    cases h4
    exact .inl (st_din ha.si hb.si re h1 h2 h3 (Q := fun c H => ∃ b, V.bl (!c) = .bl b ∧ Q b H) fun H' e => ⟨_, rfl, q H' e⟩)
  · exact .inr (st_bin od_notIn ha.si hb.si hid O B H σ E _ re (by show (ma E).bind _ = _; rw [h1]; show (mb E).bind _ = _; rw [h2]; exact hm) _ fun v H1 e1 r1 => by
      cases r1
      exact ⟨_, rfl, q H1 e1⟩)⟩
/-! ### fields, read -/
def fldD (x f : Str) : D → Option D
  | .obj y fs ds => if y = x then atK fs ds f else none
  | _ => none
theorem de_fld (x : Str) {f : Str} (c : Cls X.K (He.ga X.K x)) (n : NoAttr X.K (He.ga X.K x) f) (ha : DT X a ma) (hb : attributeBase a f X.env (eval a X.env) = eval a X.env := by rfl) : DE X (.Attribute a f pos) (mUn (fldD x f) ma) :=
  ⟨_, pe_fld ha.pe hb, fun hid O B H σ E d re hm Q q => by
  obtain ⟨y, h1, h2⟩ := bind_some hm
  clear hm
  unfold fldD at h2
  split at h2
  · rename_i z fs ds
    by_cases hz : z = x
    · rw [if_pos hz] at h2
      subst hz
      refine ha.si hid O B H σ E _ re h1 _ fun v H1 e1 r1 => ?_
      obtain ⟨p, dx, xs, rfl, g1, g2, g3⟩ := r1.obj
      obtain ⟨w, g4, g5⟩ := atK_rp g3 h2
      exact ⟨p, _, dx, _, w, rfl, g1, c, n, by rw [lookup_zip]; exact g4, q w H1 e1 g5⟩
    · rw [if_neg hz] at h2
      cases h2
  · cases h2⟩
end
end Sx

set_option Elab.async false
set_option linter.all false
set_option maxRecDepth 100000
set_option maxHeartbeats 1000000
namespace Sx
open PySem PySem.Spec PyProof.Rows L2
open Evl (Ex)

theorem DS.cases {X : Cx} {st : Stmt} {m1 m2 m : En → Option Out} (h1 : DS X st m1) (h2 : DS X st m2) (c : ∀ E o, m E = some o → m1 E = some o ∨ m2 E = some o) : DS X st m :=
  ⟨_, PS.or h1.ps h2.ps, fun hid O B H σ E o Dn r hm k => (c E o hm).elim (fun z => .inl (h1.si hid O B H σ E o Dn r z k)) fun z => .inr (h2.si hid O B H σ E o Dn r z k)⟩
section
variable {K : PySem.W.Frag} {hid O : AS} {B H H' : Hp} {σ : L2.St} {E : En} {n : Nat}
theorem vis1 {p : Addr} {H : Hp} : Ex (rem (orS hid (orS O (· = p))) H) (rem (orS hid (orS O (· ∈ [p]))) H) := rem_sub fun a z => by
  rcases z with z | z | z
  · exact .inl z
  · exact .inr (.inl z)
  · exact .inr (.inr (List.mem_singleton.mp z))
/-- a new node with closed contents, named by slot i -/
theorem RE.mkN (r : RE K hid O B H σ E) {p : Addr} {x : Nd} (i : Nat) (hp : H p = none) (e : Ex H H') (hx : IsM H' p) (no : noE n E = true) (ok : ∀ θ, NdOk K H' (rem (orS hid (orS O (· = p))) H') θ p [] x) :
    ∃ O', RE K hid O' B H' (σ.set i (some (.ref p))) ((E.set n (.nd x)).set i (.rt (.rf n))) := by
  obtain ⟨θ, ω, N, z, r2⟩ := r.newN (p := p) (w := []) (x := x) (n := n) (fun a ha => by rw [List.mem_singleton.mp ha]; exact hp) e (fun a ha => by rw [List.mem_singleton.mp ha]; exact hx) no fun θ => (ok θ).mono (fun a _ o q => q) vis1
  refine ⟨_, r2.putR N i (t := .rf n) ?_⟩
  rw [← z]
  exact .rf n
end

/-! ### dicts, made and changed -/
section
variable {X : Cx} {x : Str} {e kx vx : Expr} {m mk mv : En → Option D} {pos pos' dpos p : Pos} {A : Around} {kk : Nat}
@[simp] def mDNew0 (i n : Nat) : En → Option Out := fun E => if noE n E = true then some (.nx ((E.set n (.nd (.dct (.k []) []))).set i (.rt (.rf n)))) else none
theorem ds_dnew0 (i n : Nat) (hN : X.N.Nodup) (hi : X.N[i]? = some x := by rfl) (hx : Loc X.env.scope x := by first | exact Or.inl rfl | exact Or.inr rfl) (hs : swapsWith (.Dict [] [] dpos) (some (.Name x pos')) pos.line X.env = pure false := by rfl)
    (hf : X.fn x = true ∨ X.env.scope.names.lookup x = some .local := by first | exact .inl rfl | exact .inr rfl) : DS X (.Assign [.Name x pos'] (.Dict [] [] dpos) pos) (mDNew0 i n) := ⟨_, ps_set hN hi hx pe_dnewK hs hf, fun hid O B H σ E o Dn r hm k => by
  obtain ⟨no, rfl⟩ := ite_some hm
  refine fun p hp => ?_
  obtain ⟨O', r'⟩ := r.mkN (H' := upd H p (.dK [])) (x := .dct (.k []) []) i hp (Ex.new hp) ⟨_, upd_same, trivial⟩ no fun θ => ⟨[], upd_same, rfl, .nil⟩
  exact k O' _ _ r'⟩
@[simp] def mDNew0T (i n : Nat) : En → Option Out := fun E => if noE n E = true then some (.nx ((E.set n (.nd (.dct (.t []) []))).set i (.rt (.rf n)))) else none
theorem ds_dnew0T (i n : Nat) (hN : X.N.Nodup) (hi : X.N[i]? = some x := by rfl) (hx : Loc X.env.scope x := by first | exact Or.inl rfl | exact Or.inr rfl) (hs : swapsWith (.Dict [] [] dpos) (some (.Name x pos')) pos.line X.env = pure false := by rfl)
    (hf : X.fn x = true ∨ X.env.scope.names.lookup x = some .local := by first | exact .inl rfl | exact .inr rfl) : DS X (.Assign [.Name x pos'] (.Dict [] [] dpos) pos) (mDNew0T i n) := ⟨_, ps_set hN hi hx pe_dnewT hs hf, fun hid O B H σ E o Dn r hm k => by
  obtain ⟨no, rfl⟩ := ite_some hm
  refine fun p hp => ?_
  obtain ⟨O', r'⟩ := r.mkN (H' := upd H p (.dT [])) (x := .dct (.t []) []) i hp (Ex.new hp) ⟨_, upd_same, trivial⟩ no fun θ => ⟨[], upd_same, rfl, .nil⟩
  exact k O' _ _ r'⟩
@[simp] def mDNew1 (i n : Nat) (mk mv : En → Option D) : En → Option Out := fun E => (mk E).bind fun a => (mv E).bind fun d => (keyD a).bind fun κ => if noE n E = true then some (.nx ((E.set n (.nd (.dct (.k [κ]) [.fz d]))).set i (.rt (.rf n)))) else none
theorem ds_dnew1 (i n : Nat) (hN : X.N.Nodup) (hk : DE X kx mk) (hv : DE X vx mv) (hi : X.N[i]? = some x := by rfl) (hx : Loc X.env.scope x := by first | exact Or.inl rfl | exact Or.inr rfl) (hs : swapsWith (.Dict [some kx] [vx] dpos) (some (.Name x pos')) pos.line X.env = pure false := by rfl)
    (hf : X.fn x = true ∨ X.env.scope.names.lookup x = some .local := by first | exact .inl rfl | exact .inr rfl) : DS X (.Assign [.Name x pos'] (.Dict [some kx] [vx] dpos) pos) (mDNew1 i n mk mv) := ⟨_, ps_set hN hi hx (pe_disp (pps_cons hk.pe hv.pe pps_nil) rfl rfl (by simp) (by simp)) hs hf, fun hid O B H σ E o Dn r hm k => by
  obtain ⟨a, h1, hm⟩ := bind_some hm
  obtain ⟨d, h2, hm⟩ := bind_some hm
  obtain ⟨κ, h3, hm⟩ := bind_some hm
  obtain ⟨no, rfl⟩ := ite_some hm
  refine fun p hp => ?_
  have r1 := r.addO' hp (Ex.new hp) ⟨_, upd_same, trivial⟩ (H' := upd H p (.dK []))
  refine hk.si _ _ _ _ _ _ a r1 h1 _ fun y H1 e1 ry => ?_
  refine hv.si _ _ _ _ _ _ d (r1.grow e1) h2 _ fun v H2 e2 rv => ?_
  have e12 := e1.trans e2
  have hy : y = kV κ := keyD_tv (.inl (ry.mono (rem_mono e2) _)) h3
  subst hy
  refine ⟨e12 p _ upd_same, [(κ, v)], rfl, by simp, ?_⟩
  have eH : Ex H (upd H2 p (.dK [(κ, v)])) := Evl.Ex.mut ((Ex.new hp).trans e12) hp
  obtain ⟨O', r'⟩ := r.mkN (H' := upd H2 p (.dK [(κ, v)])) (x := .dct (.k [κ]) [.fz d]) i hp eH ⟨_, upd_same, trivial⟩ no fun θ => ⟨[v], upd_same, rfl, .cons (.fz (rv.mono (rem_upd (.inr (.inr rfl))) _)) .nil⟩
  exact k O' _ _ r'⟩
@[simp] def putKS : KS → List R → D → R → Option (KS × List R)
  | .k ks, rs, a, t => (keyD a).map fun κ => (.k (putKey ks κ), putVal ks rs κ t)
  | .t ks, rs, a, t => (keyTD a).map fun κ => (.t (putKey ks κ), putVal ks rs κ t)
theorem dput_tv {K : PySem.W.Frag} {hid O : AS} {H : Hp} {p : Addr} {y v : V} {ks : KS} {xs : List V} {rs : List R} {a : D} {t : R} {res : KS × List R} (rv : Tv K hid O H y a) (h1 : H p = some (ks.ho xs)) (h2 : ks.len = xs.length) (hl : xs.length < sizeLine) (e : putKS ks rs a t = some res) :
    ∃ xs', DPut H p y v (upd H p (res.1.ho xs')) ∧ res.1.len = xs'.length ∧ ∀ (Hv : Hp) (θ : Nat → Addr), ROk K Hv θ v t → ROks K Hv θ xs rs → ROks K Hv θ xs' res.2 := by
  cases ks with
  | k ks =>
    obtain ⟨κ, e1, rfl⟩ := map_some e
    obtain rfl := keyD_tv rv e1
    refine ⟨putVal ks xs κ v, ?_, put_len _ _ _ _ h2, fun Hv θ q1 q2 => putR_ok q1 q2⟩
    have := DPut.k (k := κ) (v := v) h1 (by rw [List.length_zip, (show ks.length = xs.length from h2), Nat.min_self]; exact hl)
    rwa [putK_zip _ _ _ _ h2] at this
  | t ks =>
    obtain ⟨κ, e1, rfl⟩ := map_some e
    unfold keyTD at e1
    split at e1
    · obtain ⟨b, zs, rfl, g1, g2⟩ := rv.tup
      have := keysDs_rp g2 e1
      subst this
      refine ⟨putVal ks xs κ v, ?_, put_len _ _ _ _ h2, fun Hv θ q1 q2 => putR_ok q1 q2⟩
      have := DPut.t (k := κ) (v := v) h1 (rem_some.mp g1).2 (by rw [List.length_zip, (show ks.length = xs.length from h2), Nat.min_self]; exact hl)
      rwa [putK_zip _ _ _ _ h2] at this
    · cases e1
theorem ho_mut (ks : KS) (xs : List V) : MutO (ks.ho xs) := by cases ks <;> trivial
@[simp] def mDPut (i : Nat) (m mk : En → Option D) : En → Option Out := fun E => (m E).bind fun d => (mk E).bind fun a => match E[i]? with
  | some (.rt (.rf n)) => (match E[n]? with
    | some (.nd (.dct ks rs)) => (putKS ks rs a (.fz d)).bind fun res => if rs.length < 100000 then some (.nx (E.set n (.nd (.dct res.1 res.2)))) else none
    | _ => none)
  | _ => none
theorem ds_dput (i : Nat) {spos : Pos} (hr : Room kk A) (he : DE X e m) (hk : DE X kx mk) (hA : X.A = A := by rfl) (hN : X.N[i]? = some x := by rfl) (hv : Vis X.env.scope x := by first | exact Or.inl rfl | exact Or.inr (Or.inl rfl) | exact Or.inr (Or.inr rfl)) (hd : (x == ("__debug__" : Str)) = false := by decide) (hcd : (x == ("__classdict__" : Str)) = false := by decide)
    (hs : swapsWith e (some (.Subscript (.Name x p) kx spos)) pos.line X.env = pure false := by rfl) : DS X (.Assign [.Subscript (.Name x p) kx spos] e pos) (mDPut i m mk) :=
  ⟨_, ps_dput (hu_of hr hA) (pe_var hN hv hd hcd) hk.pe he.pe hs, fun hid O B H σ E o Dn r hm k => by
  obtain ⟨d, h0, hm⟩ := bind_some hm
  obtain ⟨a, h1, hm⟩ := bind_some hm
  split at hm
  · rename_i n hi
    split at hm
    · rename_i ks rs hn
      obtain ⟨res, h2, hm⟩ := bind_some hm
      obtain ⟨hl, rfl⟩ := ite_some hm
      refine he.si hid O B H σ E d r h0 _ fun v H1 e1 r1 => ?_
      have R1 := r.grow e1
      obtain ⟨θ, ω, N⟩ := R1.nod
      obtain ⟨w, g1, g2⟩ := N.rt i _ hi
      refine ⟨w, g1, ?_⟩
      refine hk.si hid O B H1 σ E a R1 h1 _ fun y H2 e2 r2 => ?_
      have R2 := R1.grow e2
      have N2 : NodW X.K hid O H2 σ E θ ω := N.move (fun _ _ h => h) (fun _ _ h => ⟨h, rfl⟩) (fun n x h a ha => ⟨(N.nd n x h).1 a ha, fun o q => e2 _ o q⟩) (rem_mono e2) N.dis
      cases g2
      obtain ⟨xs, k1, k2, k3⟩ := (N2.nd n _ hn).2
      obtain ⟨xs', p1, p2, p3⟩ := dput_tv (v := v) (.inl r2 : Tv X.K hid O H2 y a) k1 k2 (by rw [k3.length]; exact size_lt hl) h2
      have vis : Ex (rem (orS hid O) H2) (rem (orS hid O) (upd H2 (θ n) (res.1.ho xs'))) := rem_upd (.inr ((N2.nd n _ hn).1 _ (List.mem_cons_self ..)))
      refine ⟨θ n, _, rfl, p1, ?_⟩
      exact k O σ _ (R2.chgN N2 hn (List.mem_cons_self ..) (ho_mut _ _) ⟨xs', upd_same, p2, p3 _ θ (.fz ((r1.mono (rem_mono e2) _).mono vis _)) (k3.mono vis _)⟩)
    · cases hm
  · cases hm⟩
@[simp] def mSub2 (i : Nat) (m mk : En → Option D) : En → Option Out := fun E => match E[i]? with
  | some (.rt _) => mDPut i m mk E
  | _ => mSub i m mk E
/-! ### fields, stored -/
@[simp] def mFld (i : Nat) (c f : Str) (m : En → Option D) : En → Option Out := fun E => (m E).bind fun d => match E[i]? with
  | some (.rt (.rf n)) => (match E[n]? with
    | some (.nd (.obj q y fs rs)) => if y = c ∧ f ∉ fs ∧ fs.length < 900 then some (.nx (E.set n (.nd (.obj q y (fs ++ [f]) (rs ++ [.fz d]))))) else none
    | _ => none)
  | _ => none
theorem ds_fld (i : Nat) (c : Str) {f : Str} {spos : Pos} (hc : Cls X.K (He.ga X.K c)) (ha : NoAttr X.K (He.ga X.K c) f) (he : DE X e m) (hN : X.N[i]? = some x := by rfl) (hv : Vis X.env.scope x := by first | exact Or.inl rfl | exact Or.inr (Or.inl rfl) | exact Or.inr (Or.inr rfl)) (hd : (x == ("__debug__" : Str)) = false := by decide) (hcd : (x == ("__classdict__" : Str)) = false := by decide)
    (hs : swapsWith e (some (.Attribute (.Name x p) f spos)) pos.line X.env = pure false := by rfl) : DS X (.Assign [.Attribute (.Name x p) f spos] e pos) (mFld i c f m) :=
  ⟨_, ps_fld (pe_var hN hv hd hcd) he.pe hs, fun hid O B H σ E o Dn r hm k => by
  obtain ⟨d, h0, hm⟩ := bind_some hm
  split at hm
  · rename_i n hi
    split at hm
    · rename_i q y fs rs hn
      obtain ⟨⟨hy, hf, hl⟩, rfl⟩ := ite_some hm
      subst hy
      refine he.si hid O B H σ E d r h0 _ fun v H1 e1 r1 => ?_
      have R1 := r.grow e1
      obtain ⟨θ, ω, N⟩ := R1.nod
      obtain ⟨w, g1, g2⟩ := N.rt i _ hi
      refine ⟨w, g1, ?_⟩
      cases g2
      obtain ⟨dx, xs, k0, k1, k2, k3⟩ := (N.nd n _ hn).2
      refine ⟨θ n, _, dx, _, rfl, k1, hc, ha, ?_, ?_⟩
      · rw [List.length_zip, k2, Nat.min_self, ← k2]
        omega
      · rw [putF_new _ _ _ _ k2 hf]
        have vis : Ex (rem (orS hid O) H1) (rem (orS hid O) (upd H1 (θ n) (.ins (He.ga X.K y) dx ((fs ++ [f]).zip (xs ++ [v]))))) := rem_upd (.inr ((N.nd n _ hn).1 _ (List.mem_cons_self ..)))
        exact k O σ _ (R1.chgN N hn (List.mem_cons_self ..) trivial ⟨dx, _, k0, upd_same, by rw [List.length_append, List.length_append, k2]; rfl, (k3.mono vis _).app (.cons (.fz (r1.mono vis _)) .nil)⟩)
    · cases hm
  · cases hm⟩
/-! ### lists of lists -/
theorem LLs.upd {K : PySem.W.Frag} {Hv Hv' : Hp} {H : Hp} {q : Addr} {xs : List V} {es : List D} (ev : Ex Hv Hv') (hx : RpL K Hv' xs es) : ∀ {w : List Addr} {dss : List (List D)} {u : Nat}, LLs K H Hv w dss → w.Nodup → w[u]? = some q → LLs K (upd H q (.lst xs)) Hv' w (dss.set u es)
  | [], [], u, _, _, e => by simp at e
  | a :: w, ds :: dss, 0, h, nd, e => by
    have e : a = q := by simpa using e
    subst e
    obtain ⟨n1, n2⟩ := List.nodup_cons.mp nd
    exact ⟨⟨xs, upd_same, hx⟩, h.2.mono (fun b hb o z => by rw [upd_ne (fun y => n1 (by rw [← y]; exact hb))]; exact z) ev⟩
  | a :: w, ds :: dss, u + 1, h, nd, e => by
    obtain ⟨n1, n2⟩ := List.nodup_cons.mp nd
    have e' : w[u]? = some q := by simpa using e
    obtain ⟨ys, y1, y2⟩ := h.1
    exact ⟨⟨ys, by rw [upd_ne (fun y => n1 (by rw [y]; exact List.mem_of_getElem? e'))]; exact y1, y2.mono ev _⟩, LLs.upd ev hx h.2 n2 e'⟩
  | [], _ :: _, _, h, _, _ => h.elim
  | _ :: _, [], _, h, _, _ => h.elim
theorem LLs.length {K : PySem.W.Frag} {H Hv : Hp} : ∀ {w : List Addr} {dss : List (List D)}, LLs K H Hv w dss → w.length = dss.length
  | [], [], _ => rfl
  | a :: w, ds :: dss, h => congrArg Nat.succ (LLs.length h.2)
  | [], _ :: _, h => h.elim
  | _ :: _, [], h => h.elim
theorem LLs.at {K : PySem.W.Frag} {H Hv : Hp} : ∀ {w : List Addr} {dss : List (List D)} {u : Nat} {ds : List D}, LLs K H Hv w dss → dss[u]? = some ds → ∃ q xs, w[u]? = some q ∧ H q = some (.lst xs) ∧ RpL K Hv xs ds
  | [], [], u, _, _, e => by simp at e
  | a :: w, ds :: dss, 0, ds', h, e => by
    have e : ds = ds' := by simpa using e
    subst e
    obtain ⟨xs, h1, h2⟩ := h.1
    exact ⟨a, xs, rfl, h1, h2⟩
  | a :: w, ds :: dss, u + 1, ds', h, e => by
    obtain ⟨q, xs, h1, h2, h3⟩ := LLs.at h.2 (u := u) (ds := ds') (by simpa using e)
    exact ⟨q, xs, by simpa using h1, h2, h3⟩
  | [], _ :: _, _, _, h, _ => h.elim
  | _ :: _, [], _, _, h, _ => h.elim
@[simp] def mLLApp (i : Nat) (mk m : En → Option D) : En → Option Out := fun E => (mk E).bind fun a => (m E).bind fun d => match a with
  | .int j => (match E[i]? with
    | some (.rt (.rf n)) => (match E[n]? with
      | some (.nd (.ll dss)) => (ixN dss.length j).bind fun u => (dss[u]?).bind fun ds => if ds.length < 100000 then some (.nx (E.set n (.nd (.ll (dss.set u (ds ++ [d])))))) else none
      | _ => none)
    | _ => none)
  | _ => none
theorem ds_llapp (i : Nat) {cpos apos spos : Pos} (hk : DE X kx mk) (he : DE X e m) (hN : X.N[i]? = some x := by rfl) (hv : Vis X.env.scope x := by first | exact Or.inl rfl | exact Or.inr (Or.inl rfl) | exact Or.inr (Or.inr rfl)) (hd : (x == ("__debug__" : Str)) = false := by decide) (hcd : (x == ("__classdict__" : Str)) = false := by decide)
    (hix : PlainIx kx := by exact fun _ _ => rfl)
    (hbase : attributeBase (.Subscript (.Name x p) kx spos) "append" X.env (eval (.Subscript (.Name x p) kx spos) X.env) = eval (.Subscript (.Name x p) kx spos) X.env := by rfl)
    (hfew : ((backTo cpos (starEach [e] X.env)).all (fun x => !x.1) && (backToKw cpos (keywordEach [] X.env)).all (fun x => x.1.isSome)
      && decide ([e].length + ([] : List Keyword).length + (if ([] : List Keyword).isEmpty then 0 else 1) < 30)) = true := by rfl)
    (hline : (apos.endLine == cpos.line) = true := by rfl) (hs : starEach [e] X.env = (false, eval e X.env) :: starEach [] X.env := by rfl) (hplain : (backTo cpos (starEach [] X.env)).any (·.1) = false := by rfl)
    (hsw : swapsWith (.Call (.Attribute (.Subscript (.Name x p) kx spos) "append" apos) [e] [] cpos) none pos.line X.env = pure false := by rfl) :
    DS X (.Expr (.Call (.Attribute (.Subscript (.Name x p) kx spos) "append" apos) [e] [] cpos) pos) (mLLApp i mk m) :=
  ⟨_, ps_expr (pe_bm PySem.F.plainAttrs_list PySem.F.slot_list_append PySem.F.type_list_append mt_append (pe_ix ix_seq (pe_var hN hv hd hcd) hk.pe hix) (pa_cons he.pe pa_nil hs) hbase hfew hline hs hplain) hsw, fun hid O B H σ E o Dn r hm k => by
  obtain ⟨a, h0, hm⟩ := bind_some hm
  obtain ⟨d, h1, hm⟩ := bind_some hm
  split at hm
  · skip
    split at hm
    · rename_i n hi
      split at hm
      · rename_i dss hn
        obtain ⟨u, h2, hm⟩ := bind_some hm
        obtain ⟨ds, h3, hm⟩ := bind_some hm
        obtain ⟨h4, rfl⟩ := ite_some hm
        obtain ⟨θ, ω, N⟩ := r.nod
        obtain ⟨w, g1, g2⟩ := N.rt i _ hi
        cases g2
        refine ⟨.ref (θ n), g1, ?_⟩
        refine hk.si hid O B H σ E _ r h0 _ fun y H1 e1 r1 => ?_
        cases r1
        have N1 : NodW X.K hid O H1 σ E θ ω := N.move (fun _ _ h => h) (fun _ _ h => ⟨h, rfl⟩) (fun n x h a ha => ⟨(N.nd n x h).1 a ha, fun o q => e1 _ o q⟩) (rem_mono e1) N.dis
        obtain ⟨k1, k2, k3, k4⟩ := (N1.nd n _ hn).2
        obtain ⟨q, xs, q1, q2, q3⟩ := k4.at h3
        refine .inl ⟨θ n, _, _, .ref q, rfl, rfl, .inl (.inl k1), ?_, ?_⟩
        · unfold atI
          rw [List.length_map, k4.length, h2]
          show ((ω n).map V.ref)[u]? = _
          rw [List.getElem?_map, q1]
          rfl
        · refine ⟨.inl ⟨rfl, xs, .inl (.inl q2)⟩, ?_⟩
          have R1 := r.grow e1
          refine he.si hid O B H1 σ E d R1 h1 _ fun v H2 e2 r2 => ?_
          have N2 : NodW X.K hid O H2 σ E θ ω := N1.move (fun _ _ h => h) (fun _ _ h => ⟨h, rfl⟩) (fun n x h a ha => ⟨(N1.nd n x h).1 a ha, fun o q => e2 _ o q⟩) (rem_mono e2) N1.dis
          refine ⟨q, xs, v, rfl, rfl, e2 q _ q2, by rw [q3.length]; exact size_lt h4, ?_⟩
          have hq : q ∈ ω n := List.mem_of_getElem? q1
          have vis : Ex (rem (orS hid O) H2) (rem (orS hid O) (upd H2 q (.lst (xs ++ [v])))) := rem_upd (.inr ((N2.nd n _ hn).1 _ (List.mem_cons_of_mem _ hq)))
          obtain ⟨k1, k2, k3, k4⟩ := (N2.nd n _ hn).2
          refine k O σ _ ((R1.grow e2).chgN N2 hn (List.mem_cons_of_mem _ hq) trivial ⟨by rw [upd_ne (fun z => k3 (by rw [z]; exact hq))]; exact k1, k2, k3, k4.upd vis ?_ k2 q1⟩)
          exact ((q3.mono (rem_mono e2) _).mono vis _).app (.one (r2.mono vis _))
      · cases hm
    · cases hm
  · cases hm⟩
end
end Sx

set_option Elab.async false
set_option linter.all false
set_option maxRecDepth 100000
set_option maxHeartbeats 1000000
namespace Sx
open PySem PySem.Spec PyProof.Rows L2
open Evl (Ex)

/-! ### [[] for x in ..] -/
@[simp] def mSetLL (i n : Nat) (mi : En → Option (List D)) : En → Option Out := fun E => (mi E).bind fun ds => if noE n E = true ∧ ds.length ≤ 100000 then some (.nx ((E.set n (.nd (.ll (List.replicate ds.length [])))).set i (.rt (.rf n)))) else none
theorem LLs.empty {K : PySem.W.Frag} {H Hv : Hp} : ∀ {qs : List Addr}, (∀ q ∈ qs, H q = some (.lst [])) → LLs K H Hv qs (List.replicate qs.length [])
  | [], _ => trivial
  | q :: qs, h => ⟨⟨[], h q (List.mem_cons_self ..), .nil⟩, LLs.empty fun a ha => h a (List.mem_cons_of_mem _ ha)⟩
theorem ss_setLL {K : PySem.W.Frag} (i n j : Nat) {wi : TI} {g : TG} {vs js : List Nat} {mi : En → Option (List D)} (hi : SIT K wi mi) (hg : SG K g js (gM j)) (hjs : ∀ j ∈ js, j ∈ vs) : SS K (tAsg (tLc wi g tYes (tLst tNil) vs) (gName i)) (mSetLL i n mi) := fun hid O B H σ E o Dn r hm k => by
  obtain ⟨ds, h1, hm⟩ := bind_some hm
  obtain ⟨⟨no, hz⟩, rfl⟩ := ite_some hm
  refine hi hid O B H σ E ds r h1 _ fun J H2 G Y e2 w hG hY Dl hD => ?_
  have r2 := r.grow e2
  refine lc_it w (fun i H' => Ex H2 H' ∧ ∃ qs : List Addr, H' Dl = some (.lst (qs.map V.ref)) ∧ (Dl :: qs).Nodup ∧ (∀ q ∈ qs, H2 q = none ∧ H' q = some (.lst [])) ∧ qs.length = i)
    ⟨Ex.new hD, [], upd_same, by simp, fun q h => (nomatch h), rfl⟩ (fun i H' _ p => hG H' p.1) (fun i x H3 H3' hi p y => ?_) (fun H' p => ?_)
  · obtain ⟨e3, qs, g1, g2, g3, g4⟩ := p
    have rA : RE K hid (orS O (· = Dl)) B H3 σ E := r2.addO hD e3 g1
    have assoc2 : ∀ a, orS hid (orS O (· = Dl)) a → orS (orS hid O) (· = Dl) a := fun a z => by
      rcases z with z | z | z
      · exact .inl (.inl z)
      · exact .inl (.inr z)
      · exact .inr z
    have exv : Ex (rem (orS hid O) H2) (rem (orS hid (orS O (· = Dl))) H3) := fun a o z => rem_sub assoc2 _ _ (rem_new hD e3 a o z)
    obtain ⟨e4, rx⟩ := hY i H3 x H3' (orS hid (orS O (· = Dl))) ds[i] y (List.getElem?_eq_getElem hi) exv (fun p hp => rA.fresh hp)
    have rW := (rA.grow e4).wiped vs
    refine hg hid _ B H3' _ _ x ds[i] _ rW rx rfl _ fun σ2 r3 w3 => ⟨?_, ?_⟩
    · have := w3 vs hjs
      rw [this]
      refine List.ext_getElem? fun j => ?_
      rw [wipe_get, wipe_get, wipe_length]
      by_cases hj : j ∈ vs ∧ j < σ.length
      · rw [if_pos hj, if_pos hj]
      · rw [if_neg hj, if_neg hj]
    · unfold tYes
      dsimp only
      rw [if_pos rfl]
      refine ⟨by show (0 : Nat) ≤ sizeLine; omega, fun p hp => ?_⟩
      have hpD : Dl ≠ p := fun z => by
        rw [← z, e4 Dl _ g1] at hp
        cases hp
      have e5 : Ex H3' (upd H3' p (.lst [])) := Ex.new hp
      have pq : p ∉ qs := fun z => by
        rw [e4 p _ (g3 p z).2] at hp
        cases hp
      refine ⟨qs.map V.ref, e5 Dl _ (e4 Dl _ g1), by rw [List.length_map, g4]; exact size_lt (by omega), Evl.Ex.mut ((e3.trans e4).trans e5) hD, qs ++ [p], ?_, ?_, fun q hq => ?_, by rw [List.length_append, g4]; rfl⟩
      · rw [upd_same, List.map_append]
        rfl
      · obtain ⟨n1, n2⟩ := List.nodup_cons.mp g2
        refine List.nodup_cons.mpr ⟨fun z => ?_, ?_⟩
        · rcases List.mem_append.mp z with z | z
          · exact n1 z
          · exact hpD (List.mem_singleton.mp z)
        · exact List.nodup_append.mpr ⟨n2, by simp, fun a ha b hb z => pq (by rw [← List.mem_singleton.mp hb, ← z]; exact ha)⟩
      · rcases List.mem_append.mp hq with z | z
        · have hqD : q ≠ Dl := fun y => (List.nodup_cons.mp g2).1 (y ▸ z)
          exact ⟨(g3 q z).1, by rw [upd_ne hqD]; exact e5 q _ (e4 q _ (g3 q z).2)⟩
        · have z := List.mem_singleton.mp z
          subst z
          exact ⟨Evl.fresh_back (e3.trans e4) hp, by rw [upd_ne (fun y => hpD y.symm)]; exact upd_same⟩
  · obtain ⟨e3, qs, g1, g2, g3, g4⟩ := p
    obtain ⟨n1, n2⟩ := List.nodup_cons.mp g2
    have e23 := e2.trans e3
    have f1 : ∀ a ∈ Dl :: qs, H a = none := fun a ha => by
      rcases List.mem_cons.mp ha with y | y
      · rw [y]; exact Evl.fresh_back e2 hD
      · exact Evl.fresh_back e2 (g3 a y).1
    have f2 : ∀ a ∈ Dl :: qs, IsM H' a := fun a ha => by
      rcases List.mem_cons.mp ha with y | y
      · rw [y]; exact .lst g1
      · exact .lst (g3 a y).2
    obtain ⟨θ, ω, N, z, r3⟩ := r.newN (H' := H') (p := Dl) (w := qs) (x := .ll (List.replicate ds.length [])) (n := n) f1 e23 f2 no (fun θ => ⟨g1, n2, n1, g4 ▸ LLs.empty fun q hq => (g3 q hq).2⟩)
    refine k _ _ H' (r3.putR N i (t := .rf n) ?_)
    rw [← z]
    exact .rf n
theorem ds_setLL (i n j : Nat) {X : Cx} {y : Str} {py : Pos} {tg iter : Expr} {scope : Scope} {own : List (Str × Nat)} {pos lpos spos : Pos} {js : List Nat} {mi : En → Option (List D)}
    (hc : X.calm = true) (hN : X.N.Nodup) (hi : DIT X tg iter mi) (ok : BlkOk X.N X.env.scope scope own) (hjs : ∀ j ∈ js, j ∈ own.map (·.2))
    (hg : ∀ (s : Shared) (H : Hp) (C : Addr) (cl : List (Str × Addr)) (fp : List Addr), DG (X.blk s H scope (compEnvC scope cl C X.env) fp) tg js (gM j))
    (hsw : swapsWith (.ListComp (.List [] lpos) [⟨tg, iter, [], 0⟩] scope pos) (some (.Name y py)) spos.line X.env = pure true) (hy : X.N[i]? = some y := by rfl) (hyl : X.env.scope.names.lookup y = some .local := by rfl) (hs : ∀ x, foldedSetIterable iter X.env x = pure x := by intro _; rfl) :
    DS X (.Assign [.Name y py] (.ListComp (.List [] lpos) [⟨tg, iter, [], 0⟩] scope pos) spos) (mSetLL i n mi) :=
  ⟨_, ps_setLc (wi := tITq X.K mi) (g := tGq X.K js (gM j)) (tt := tYes) (te := tLst tNil) hc hN hy hyl hsw hi.pi ok (fun s H C cl fp => (hg s H C cl fp).pg) (fun s H C cl fp => pts_nil) (fun s H C cl fp => pe_lst pa_nil) hs,
    ss_setLL i n j hi.si (hg X.s_0 X.H_0 0 [] []).si hjs⟩

/-! ### clear; let go; look -/
section
variable {X : Cx} {x : Str} {e : Expr} {m : En → Option D} {st : Stmt} {mo : En → Option Out} {pos p apos cpos : Pos}
@[simp] def mClear (i : Nat) : En → Option Out := fun E => match E[i]? with
  | some (.ow _) => some (.nx (E.set i (.ow [])))
  | some (.rt (.rf n)) => (match E[n]? with
    | some (.nd (.lst _)) => some (.nx (E.set n (.nd (.lst []))))
    | _ => none)
  | _ => none
theorem ds_clear (i : Nat) (hN : X.N[i]? = some x := by rfl) (hv : Vis X.env.scope x := by first | exact Or.inl rfl | exact Or.inr (Or.inl rfl) | exact Or.inr (Or.inr rfl)) (hd : (x == ("__debug__" : Str)) = false := by decide) (hcd : (x == ("__classdict__" : Str)) = false := by decide)
    (hbase : attributeBase (.Name x p) "clear" X.env (eval (.Name x p) X.env) = eval (.Name x p) X.env := by rfl) (hline : (apos.endLine == cpos.line) = true := by rfl)
    (hsw : swapsWith (.Call (.Attribute (.Name x p) "clear" apos) [] [] cpos) none pos.line X.env = pure false := by rfl) : DS X (.Expr (.Call (.Attribute (.Name x p) "clear" apos) [] [] cpos) pos) (mClear i) :=
  ⟨_, ps_expr (pe_bm0 PySem.F.plainAttrs_list PySem.F.slot_list_clear PySem.F.type_list_clear mt_clear (pe_var hN hv hd hcd) hbase hline) hsw, fun hid O B H σ E o Dn r hm k => by
  unfold mClear at hm
  split at hm
  · rename_i ds hi
    cases hm
    obtain ⟨q, xs, g1, g2, g3, g4⟩ := r.ow i ds hi
    exact ⟨.ref q, g1, .inl ⟨rfl, xs, .inl (.inl g3)⟩, q, xs, rfl, rfl, g3, k O σ _ (r.chg hi g1 .nil)⟩
  · rename_i n hi
    split at hm
    · rename_i rs hn
      cases hm
      obtain ⟨θ, ω, N⟩ := r.nod
      obtain ⟨w, g1, g2⟩ := N.rt i _ hi
      cases g2
      obtain ⟨xs, k1, k2⟩ := (N.nd n _ hn).2
      exact ⟨.ref (θ n), g1, .inl ⟨rfl, xs, .inl (.inl k1)⟩, θ n, xs, rfl, rfl, k1, k O σ _ (r.chgN N hn (List.mem_cons_self ..) trivial ⟨[], upd_same, .nil⟩)⟩
    · cases hm
  · cases hm⟩
/-- what slot i names is let go -/
@[simp] def frzE2 (i : Nat) (E : En) : En := match E[i]? with
  | some (.ow ds) => E.set i (.fz (.lst ds))
  | some (.rt (.rf n)) => (match E[n]? with
    | some (.nd x) => (match ndD x with
      | some d => subE n d E
      | none => E)
    | _ => E)
  | _ => E
theorem RE.frzE2 {K : PySem.W.Frag} {hid O : AS} {B H : Hp} {σ : L2.St} {E : En} (r : RE K hid O B H σ E) (i : Nat) : ∃ O', RE K hid O' B H σ (frzE2 i E) := by
  unfold Sx.frzE2
  split
  · rename_i ds h
    obtain ⟨O', r', _⟩ := r.frz h
    exact ⟨O', r'⟩
  · rename_i n h
    split
    · rename_i x hn
      split
      · rename_i d hd
        exact r.frzN hn hd
      · exact ⟨O, r⟩
    · exact ⟨O, r⟩
  · exact ⟨O, r⟩
@[simp] def mFrz2 (i : Nat) (m : En → Option Out) : En → Option Out := fun E => m (frzE2 i E)
theorem ds_frz2 (i : Nat) (h : DS X st mo) : DS X st (mFrz2 i mo) := ⟨_, h.ps, fun hid O B H σ E o Dn r hm k => by
  obtain ⟨O', r'⟩ := r.frzE2 i
  exact h.si hid O' B H σ _ o Dn r' hm k⟩
/-- a slot is forgotten -/
@[simp] def mUnS (i : Nat) (m : En → Option Out) : En → Option Out := fun E => m (match E[i]? with
  | some (.rt _) => E.set i .un
  | some (.nd _) => E.set i .un
  | _ => E)
/-- the whole of a value, owned or not -/
def SV (K : PySem.W.Frag) (te : TE) (m : En → Option D) : Prop := ∀ (hid O : AS) (B H : Hp) (σ : L2.St) (E : En) (d : D), RE K hid O B H σ E → m E = some d → ∀ Q : VK, (∀ v H', Ex H H' → Rp K H' v d → Q v H') → te σ H Q
def DV (X : Cx) (e : Expr) (m : En → Option D) : Prop := ∃ te, PE X e te ∧ SV X.K te m
theorem DT.v (h : DT X e m) : DV X e m := ⟨_, h.pe, fun hid O B H σ E d r hm Q q => h.si hid O B H σ E d r hm Q fun v H' e x => q v H' e x.full⟩
mutual
@[simp] def rF (E : En) : R → Option D
  | .fz d => some d
  | .rf n => match E[n]? with
    | some (.nd x) => ndD x
    | _ => none
  | .tp rs => (rFs E rs).map .tup
@[simp] def rFs (E : En) : List R → Option (List D)
  | [] => some []
  | r :: rs => (rF E r).bind fun d => (rFs E rs).map (d :: ·)
end
theorem NodW.nodeF {K : PySem.W.Frag} {hid O : AS} {H : Hp} {σ : L2.St} {E : En} {θ : Nat → Addr} {ω : Nat → List Addr} (N : NodW K hid O H σ E θ ω) {n : Nat} {x : Nd} {d : D} (hn : E[n]? = some (.nd x)) (hx : ndD x = some d) : Rp K H (.ref (θ n)) d := by
  cases x with
  | lst rs => exact (N.nodeT hn hx).full
  | dct ks rs => exact (N.nodeT hn hx).full
  | obj q y fs rs => exact (N.nodeT hn hx).full
  | ll dss =>
    cases hx
    obtain ⟨k1, k2, k3, k4⟩ := (N.nd n _ hn).2
    exact .lst k1 ((k4.mono (fun a ha o z => z) rem_ex).rp fun a ha o z => z)
mutual
theorem NodW.full {K : PySem.W.Frag} {hid O : AS} {H : Hp} {σ : L2.St} {E : En} {θ : Nat → Addr} {ω : Nat → List Addr} (N : NodW K hid O H σ E θ ω) : ∀ (r : R) {v : V} {d : D}, ROk K (rem (orS hid O) H) θ v r → rF E r = some d → Rp K H v d
  | .fz e, v, d, h, hm => by
    rw [rF] at hm
    cases hm
    cases h with | fz h => exact h.mono rem_ex _
  | .rf n, v, d, h, hm => by
    cases h
    rw [rF] at hm
    split at hm
    · exact N.nodeF ‹_› hm
    · cases hm
  | .tp rs, v, d, h, hm => by
    rw [rF] at hm
    obtain ⟨ds, e1, rfl⟩ := map_some hm
    cases h with
    | tp h1 h2 => exact .tup (rem_some.mp h1).2 (N.fulls rs h2 e1)
theorem NodW.fulls {K : PySem.W.Frag} {hid O : AS} {H : Hp} {σ : L2.St} {E : En} {θ : Nat → Addr} {ω : Nat → List Addr} (N : NodW K hid O H σ E θ ω) : ∀ (rs : List R) {vs : List V} {ds : List D}, ROks K (rem (orS hid O) H) θ vs rs → rFs E rs = some ds → RpL K H vs ds
  | [], vs, ds, h, hm => by
    rw [rFs] at hm
    cases hm
    cases h
    exact .nil
  | r :: rs, vs, ds, h, hm => by
    rw [rFs] at hm
    obtain ⟨d, e1, hm⟩ := bind_some hm
    obtain ⟨ds', e2, rfl⟩ := map_some hm
    cases h with
    | cons h1 h2 => exact .cons (N.full r h1 e1) (N.fulls rs h2 e2)
end
@[simp] def mVarV (i : Nat) : En → Option D := fun E => match E[i]? with
  | some (.fz d) => some d
  | some (.ow ds) => some (.lst ds)
  | some (.rt r) => rF E r
  | _ => none
theorem dv_var (i : Nat) (hN : X.N[i]? = some x := by rfl) (hv : Vis X.env.scope x := by first | exact Or.inl rfl | exact Or.inr (Or.inl rfl) | exact Or.inr (Or.inr rfl)) (hd : (x == ("__debug__" : Str)) = false := by decide)
    (hcd : (x == ("__classdict__" : Str)) = false := by decide) : DV X (.Name x pos) (mVarV i) := ⟨_, pe_var hN hv hd hcd, fun hid O B H σ E d r hm Q q => by
  unfold mVarV at hm
  split at hm
  · rename_i d' h
    cases hm
    obtain ⟨v, h1, h2⟩ := r.fz i d h
    exact ⟨v, h1, q v H (Ex.refl H) (h2.mono rem_ex _)⟩
  · rename_i ds h
    cases hm
    obtain ⟨p, xs, h1, h2, h3, h4⟩ := r.ow i ds h
    exact ⟨.ref p, h1, q _ H (Ex.refl H) (.lst h3 (h4.mono rem_ex _))⟩
  · rename_i t h
    obtain ⟨θ, ω, N⟩ := r.nod
    obtain ⟨v, h1, h2⟩ := N.rt i t h
    exact ⟨v, h1, q v H (Ex.refl H) (N.full t h2 hm)⟩
  · cases hm⟩
def DV.pe (h : DV X e m) : ∃ te, PE X e te ∧ SV X.K te m := h
theorem dat_consV {es : List Expr} {ms : En → Option (List D)} (ha : DV X e m) (hr : DAT X es ms) (hs : starEach (e :: es) X.env = (false, eval e X.env) :: starEach es X.env := by rfl) : DAT X (e :: es) (mCons m ms) := by
  obtain ⟨te, h1, h2⟩ := ha
  refine ⟨_, pa_cons h1 hr.pa hs, fun hid O B H σ E ds re hm Q q => ?_⟩
  obtain ⟨y, k1, hm⟩ := bind_some hm
  obtain ⟨xs, k2, rfl⟩ := map_some hm
  refine h2 hid O B H σ E y re k1 _ fun v H1 e1 r1 => ?_
  exact hr.si hid O B H1 σ E xs (re.grow e1) k2 _ fun vs H2 e2 r2 => q _ H2 (e1.trans e2) (.cons (r1.mono e2 _) r2)
/-- y[c], y a tuple that may hold owned objects -/
@[simp] def mRix (j : Nat) (c : Nat) : En → Option D := fun E => match E[j]? with
  | some (.rt (.tp rs)) => (rs[c]?).bind (rT E)
  | _ => (mVarT j E).bind fun y => ixD y (.int (c : Int))
theorem ROks.at {K : PySem.W.Frag} {H : Hp} {θ : Nat → Addr} : ∀ {vs : List V} {rs : List R} {c : Nat} {r : R}, ROks K H θ vs rs → rs[c]? = some r → ∃ v, vs[c]? = some v ∧ ROk K H θ v r
  | _, [], c, r, h, e => by simp at e
  | _, r :: rs, 0, r', h, e => by
    cases h with
    | cons h1 h2 =>
      simp at e
      subst e
      exact ⟨_, rfl, h1⟩
  | _, r :: rs, c + 1, r', h, e => by
    cases h with
    | cons h1 h2 =>
      obtain ⟨v, e1, e2⟩ := h2.at (c := c) (r := r') (by simpa using e)
      exact ⟨v, by simpa using e1, e2⟩
theorem atI_nat {α : Type} (xs : List α) (c : Nat) : atI xs (c : Int) = xs[c]? := by
  unfold atI ixN
  by_cases h : c < xs.length
  · simp [h]
  · simp [h]
theorem dt_rix (j c : Nat) {k1 : Nat} {spos ipos : Pos} (hN : X.N[j]? = some x := by rfl) (hv : Vis X.env.scope x := by first | exact Or.inl rfl | exact Or.inr (Or.inl rfl) | exact Or.inr (Or.inr rfl)) (hd : (x == ("__debug__" : Str)) = false := by decide)
    (hcd : (x == ("__classdict__" : Str)) = false := by decide) : DT X (.Subscript (.Name x p) (.Constant (.int (c : Int)) k1 ipos) spos) (mRix j c) := ⟨_, PE.or (pe_ix ix_seq (pe_var hN hv hd hcd) pe_int (fun _ _ => rfl)) (pe_ix ix_seq (dt_var (X := X) (pos := p) j hN hv hd hcd).pe pe_int (fun _ _ => rfl)), fun hid O B H σ E d r hm Q q => by
  unfold mRix at hm
  split at hm
  · rename_i rs h
    obtain ⟨t, h1, h2⟩ := bind_some hm
    obtain ⟨θ, ω, N⟩ := r.nod
    obtain ⟨v, g1, g2⟩ := N.rt j _ h
    cases g2 with
    | tp g3 g4 =>
      obtain ⟨u, g5, g6⟩ := g4.at h1
      exact .inl ⟨_, g1, .inr (.inl ⟨_, _, _, u, rfl, rfl, Evl.st_of (rem_some.mp g3).2, by rw [atI_nat]; exact g5, q u H (Ex.refl H) (N.tv g6 h2)⟩)⟩
  · obtain ⟨y, h1, h2⟩ := bind_some hm
    exact .inr ((dt_var (X := X) (pos := p) j hN hv hd hcd).si hid O B H σ E y r h1 _ fun v H1 e1 r1 => od_ix hid O H1 v _ y _ d (al_of (r.grow e1)) r1 (.inl (.int _)) h2 Q fun w H2 e2 r2 => q w H2 (e1.trans e2) (.inl r2))⟩
/-- x = y[c] -/
@[simp] def mSetRix (i j c : Nat) : En → Option Out := fun E => match E[j]? with
  | some (.rt (.tp rs)) => (rs[c]?).map fun r => .nx (E.set i (.rt r))
  | _ => none
theorem ds_setRix (i j c : Nat) {z : Str} {k1 : Nat} {spos ipos pos' : Pos} (hNd : X.N.Nodup) (hN : X.N[j]? = some x := by rfl) (hv : Vis X.env.scope x := by first | exact Or.inl rfl | exact Or.inr (Or.inl rfl) | exact Or.inr (Or.inr rfl)) (hd : (x == ("__debug__" : Str)) = false := by decide)
    (hcd : (x == ("__classdict__" : Str)) = false := by decide) (hi : X.N[i]? = some z := by rfl) (hx : Loc X.env.scope z := by first | exact Or.inl rfl | exact Or.inr rfl) (hs : swapsWith (.Subscript (.Name x p) (.Constant (.int (c : Int)) k1 ipos) spos) (some (.Name z pos')) pos.line X.env = pure false := by rfl)
    (hf : X.fn z = true ∨ X.env.scope.names.lookup z = some .local := by first | exact .inl rfl | exact .inr rfl) : DS X (.Assign [.Name z pos'] (.Subscript (.Name x p) (.Constant (.int (c : Int)) k1 ipos) spos) pos) (mSetRix i j c) :=
  ⟨_, ps_set hNd hi hx (pe_ix ix_seq (pe_var hN hv hd hcd) pe_int (fun _ _ => rfl)) hs hf, fun hid O B H σ E o Dn r hm k => by
  unfold mSetRix at hm
  split at hm
  · rename_i rs h
    obtain ⟨t, h1, rfl⟩ := map_some hm
    obtain ⟨θ, ω, N⟩ := r.nod
    obtain ⟨v, g1, g2⟩ := N.rt j _ h
    cases g2 with
    | tp g3 g4 =>
      obtain ⟨u, g5, g6⟩ := g4.at h1
      exact ⟨_, g1, .inr (.inl ⟨_, _, _, u, rfl, rfl, Evl.st_of (rem_some.mp g3).2, by rw [atI_nat]; exact g5, k O _ H (r.putR N i g6)⟩)⟩
  · cases hm⟩
/-! ### enumerate of a tuple, sorted of a dict -/
@[simp] def mEnumT (m : En → Option D) : En → Option (List D) := fun E => ((m E).bind tupOf).map (enumD 0)
theorem di_enumT {tpos : Pos} {elts : List Expr} {kk : Nat} (hm : X.mg "enumerate" = none) (h : DE X e m) (hg : Gl X "enumerate" := by rfl) (hs1 : starEach [e] X.env = (false, eval e X.env) :: starEach [] X.env := by rfl) (hs : starEach [e] X.env = [(false, eval e X.env)] := by rfl) :
    DI X (.Tuple elts kk tpos) (.Call (.Name "enumerate" p) [e] [] pos) (mEnumT m) := ⟨_, pi_enumT hg hm (pa_cons h.pe pa_nil hs1) hs, fun hid O B H σ E ds r hm R k => by
  obtain ⟨es, h1, rfl⟩ := map_some hm
  obtain ⟨x, h2, h3⟩ := bind_some h1
  refine h.si hid O B H σ E x r h2 _ fun v H1 e1 r1 => ?_
  unfold tupOf at h3
  split at h3
  · cases h3
    cases r1 with
    | @tup a xs _ g1 g2 =>
      refine ⟨a, xs, rfl, Evl.st_of (rem_some.mp g1).2, ?_⟩
      have w := walk_enumT (K := X.K) (a := a) (xs := xs)
      rw [g2.length, ← enumD_len es 0] at w
      exact k _ H1 _ _ e1 w (fun H' z => Evl.st_of (z _ _ g1)) (Yd.enum g2)
  · cases h3⟩
def intKeys : List Key → Option (List Int)
  | [] => some []
  | .inl i :: ks => (intKeys ks).map (i :: ·)
  | _ :: _ => none
theorem intKeys_some : ∀ {ks : List Key} {ns : List Int}, intKeys ks = some ns → ks = ns.map Sum.inl
  | [], ns, h => by cases h; rfl
  | .inl i :: ks, ns, h => by
    obtain ⟨ms, h1, rfl⟩ := map_some (show (intKeys ks).map (i :: ·) = some ns from h)
    rw [intKeys_some h1]
    rfl
  | .inr _ :: ks, ns, h => by cases h
theorem intKeys_map : ∀ (ns : List Int), intKeys (ns.map Sum.inl) = some ns
  | [] => rfl
  | n :: ns => by
    show (intKeys (ns.map Sum.inl)).map (n :: ·) = _
    rw [intKeys_map ns]
    rfl
@[simp] def keysOf : D → Option (List Int)
  | .dct (.k ks) _ => (intKeys ks).bind fun ns => if ns.length ≤ 100000 then some ns else none
  | _ => none
theorem df_sortedD (hc : X.calm = true) (hm : X.mg "sorted" = none) (ha : DT X e m) (hg : Gl X "sorted" := by rfl) (hs : starEach [e] X.env = (false, eval e X.env) :: starEach [] X.env := by rfl) (hpl : (backTo pos (starEach [] X.env)).any (·.1) = false := by rfl) :
    DF X (.Call (.Name "sorted" p) [e] [] pos) (fun E => ((m E).bind keysOf).map fun ns => (sortI ns).map .int) := ⟨_, pe_callB (call_sortedDIx hc) hg hm (by decide +kernel) (pa_cons ha.pe pa_nil hs) (by decide) (by decide) hs hpl, fun hid O B H σ E ds re hm Q q => by
  obtain ⟨ns, h1, rfl⟩ := map_some hm
  obtain ⟨x, h0, h1⟩ := bind_some h1
  refine ha.si hid O B H σ E x re h0 _ fun v H1 e1 r1 => ?_
  unfold keysOf at h1
  split at h1
  · obtain ⟨ms, h2, h3⟩ := bind_some h1
    obtain ⟨h4, rfl⟩ := ite_some h3
    obtain ⟨p, xs, rfl, g1, g2, g3⟩ := r1.dct
    refine ⟨p, _, ms, rfl, .inl g1, ?_, h4, fun ns' l hp hs hl => ?_⟩
    · rw [List.map_fst_zip (Nat.le_of_eq g2), intKeys_some h2]
    · rw [sorted_uniq (hp.trans (sortI_perm ms).symm) hs (sortI_le ms)]
      exact q l _ _ (Evl.fresh_back e1 hl) (e1.trans (Ex.new hl)) upd_same (RpL.ints _)
  · cases h1⟩
end
end Sx

set_option Elab.async false
set_option linter.all false
set_option maxRecDepth 100000
set_option maxHeartbeats 1000000
namespace Sx
open PySem PySem.Spec PyProof.Rows L2
open Evl (Ex)

/-! ### arguments that may be owned lists, results without lists -/
def lsW (hid O : AS) (H : Hp) : AS := fun a => orS hid O a ∧ ¬ ∃ xs, H a = some (.lst xs)
theorem lsW_ex {hid O : AS} {H : Hp} : Ex (rem (orS hid O) H) (rem (lsW hid O H) H) := rem_sub fun a z => z.1
theorem lsW_mono {hid O : AS} {H H' : Hp} (e : Ex H H') : Ex (rem (lsW hid O H) H) (rem (lsW hid O H') H') := fun a o q => by
  obtain ⟨z1, z2⟩ := rem_some.mp q
  exact rem_some.mpr ⟨fun z => z1 ⟨z.1, fun ⟨xs, y⟩ => z.2 ⟨xs, e _ _ y⟩⟩, e a o z2⟩
mutual
@[simp] def nol : D → Bool
  | .lst _ => false
  | .scr _ => false
  | .tup ds => nols ds
  | .dct _ ds => nols ds
  | .obj _ _ ds => nols ds
  | .err _ _ => false
  | _ => true
@[simp] def nols : List D → Bool
  | [] => true
  | d :: ds => nol d && nols ds
end
section
variable {K : PySem.W.Frag} {H : Hp} {W W' : AS}
theorem rem_nl (hW : ∀ a, W a → W' a ∨ ∃ xs, H a = some (.lst xs)) {a : Addr} {o : HO} (h : rem W' H a = some o) (hn : ∀ xs, o ≠ .lst xs) : rem W H a = some o := by
  obtain ⟨z1, z2⟩ := rem_some.mp h
  refine rem_some.mpr ⟨fun z => ?_, z2⟩
  rcases hW a z with y | ⟨xs, y⟩
  · exact z1 y
  · rw [z2] at y
    cases y
    exact hn xs rfl
theorem rem_nlT (hW : ∀ a, W a → W' a ∨ ∃ xs, H a = some (.lst xs)) {a : Addr} {xs : List V} (h : rem W' H a = some (.tup xs)) : rem W H a = some (.tup xs) := rem_nl hW h fun _ z => by cases z
mutual
theorem nol_rp (hW : ∀ a, W a → W' a ∨ ∃ xs, H a = some (.lst xs)) : ∀ (d : D) {v : V}, nol d = true → Rp K (rem W' H) v d → Rp K (rem W H) v d
  | .non, _, _, h => by cases h; exact .non
  | .bl b, _, _, h => by cases h; exact .bl b
  | .int i, _, _, h => by cases h; exact .int i
  | .str x, _, _, h => by cases h; exact .str x
  | .lst ds, _, z, h => by
    rw [nol] at z
    cases z
  | .tup ds, _, z, h => by
    rw [nol] at z
    cases h with
    | tup h1 h2 => exact .tup (rem_nlT hW h1) (nols_rp hW ds z h2)
  | .scr ns, _, z, h => by
    rw [nol] at z
    cases z
  | .dct ks ds, _, z, h => by
    rw [nol] at z
    cases h with
    | dct h1 h2 h3 => exact .dct (rem_nl hW h1 fun _ y => by cases ks <;> cases y) h2 (nols_rp hW ds z h3)
  | .obj x fs ds, _, z, h => by
    rw [nol] at z
    cases h with
    | obj h1 h2 h3 => exact .obj (rem_nl hW h1 fun _ y => by cases y) h2 (nols_rp hW ds z h3)
  | .err _ _, _, z, h => by
    rw [nol] at z
    cases z
theorem nols_rp (hW : ∀ a, W a → W' a ∨ ∃ xs, H a = some (.lst xs)) : ∀ (ds : List D) {vs : List V}, nols ds = true → RpL K (rem W' H) vs ds → RpL K (rem W H) vs ds
  | [], _, _, h => by cases h; exact .nil
  | d :: ds, _, z, h => by
    rw [nols] at z
    obtain ⟨z1, z2⟩ := Bool.and_eq_true_iff.mp z
    cases h with
    | cons h1 h2 => exact .cons (nol_rp hW d z1 h1) (nols_rp hW ds z2 h2)
end
end
theorem lsW_hW {hid O : AS} {H H' : Hp} (e : Ex H H') : ∀ a, orS hid O a → lsW hid O H a ∨ ∃ xs, H' a = some (.lst xs) := fun a z => by
  by_cases h : ∃ xs, H a = some (.lst xs)
  · obtain ⟨xs, h⟩ := h
    exact .inr ⟨xs, e _ _ h⟩
  · exact .inl ⟨z, h⟩
def SAL (K : PySem.W.Frag) (ta : TA) (m : En → Option (List D)) : Prop := ∀ (hid O : AS) (B H : Hp) (σ : L2.St) (E : En) (ds : List D), RE K hid O B H σ E → m E = some ds → ∀ Q : List V → Hp → Prop, (∀ vs H', Ex H H' → RpL K (rem (lsW hid O H') H') vs ds → Q vs H') → ta σ H Q
def DAL (X : Cx) (es : List Expr) (m : En → Option (List D)) : Prop := ∃ ta, PA X es ta ∧ SAL X.K ta m
section
variable {X : Cx} {e : Expr} {es : List Expr} {ma : En → Option D} {m : En → Option (List D)}
theorem dal_nil : DAL X [] mNil := ⟨_, pa_nil, fun hid O B H σ E ds re hm Q q => by
  cases hm
  exact q [] H (Ex.refl H) .nil⟩
theorem dal_consE (ha : DE X e ma) (hr : DAL X es m) (hs : starEach (e :: es) X.env = (false, eval e X.env) :: starEach es X.env := by rfl) : DAL X (e :: es) (mCons ma m) := by
  obtain ⟨ta, h1, h2⟩ := hr
  refine ⟨_, pa_cons ha.pe h1 hs, fun hid O B H σ E ds re hm Q q => ?_⟩
  obtain ⟨x, k1, hm⟩ := bind_some hm
  obtain ⟨xs, k2, rfl⟩ := map_some hm
  refine ha.si hid O B H σ E x re k1 _ fun v H1 e1 r1 => ?_
  exact h2 hid O B H1 σ E xs (re.grow e1) k2 _ fun vs H2 e2 r2 => q _ H2 (e1.trans e2) (.cons ((r1.mono (rem_mono e2) _).mono lsW_ex _) r2)
@[simp] def mIsL (m : En → Option D) : En → Option D := fun E => match m E with
  | some (.lst ds) => some (.lst ds)
  | _ => none
theorem dal_consT (ha : DT X e ma) (hr : DAL X es m) (hs : starEach (e :: es) X.env = (false, eval e X.env) :: starEach es X.env := by rfl) : DAL X (e :: es) (mCons (mIsL ma) m) := by
  obtain ⟨ta, h1, h2⟩ := hr
  refine ⟨_, pa_cons ha.pe h1 hs, fun hid O B H σ E ds re hm Q q => ?_⟩
  obtain ⟨x, k1, hm⟩ := bind_some hm
  obtain ⟨xs, k2, rfl⟩ := map_some hm
  unfold mIsL at k1
  split at k1
  · rename_i ys k0
    cases k1
    refine ha.si hid O B H σ E _ re k0 _ fun v H1 e1 r1 => ?_
    refine h2 hid O B H1 σ E xs (re.grow e1) k2 _ fun vs H2 e2 r2 => q _ H2 (e1.trans e2) (.cons ?_ r2)
    obtain ⟨p, us, rfl, g1, g2⟩ := (r1.mono e2).lst
    exact .lst (rem_some.mpr ⟨fun z => z.2 ⟨us, g1⟩, g1⟩) (g2.mono lsW_ex _)
  · cases k1
end
theorem lsW_m {K : PySem.W.Frag} {hid O : AS} {B H : Hp} {σ : L2.St} {E : En} (re : RE K hid O B H σ E) : ∀ a, lsW hid O H a → IsM H a := fun a z => by
  rcases z.1 with z | z
  · exact (re.hidd a z).mono re.ex
  · exact (re.own a z).2
theorem orS_m {K : PySem.W.Frag} {hid O : AS} {B H : Hp} {σ : L2.St} {E : En} (re : RE K hid O B H σ E) : ∀ a, orS hid O a → IsM H a := fun a z => by
  rcases z with z | z
  · exact (re.hidd a z).mono re.ex
  · exact (re.own a z).2
@[simp] def mCallL (n : Nat) (m : List D → Option D) (a : En → Option (List D)) : En → Option D := fun E => (a E).bind fun ds => if ds.length = n then (m ds).bind fun d => if nol d = true then some d else none else none
theorem de_callL {X : Cx} {x : Str} {k n : Nat} {m : List D → Option D} {e : Expr} {es : List Expr} {ma : En → Option (List D)} {p pos : Pos} {P : Program} {w : World} {K : PySem.W.Frag} {mg : Str → Option Value} {base : Heap} {A : Around} (G : Cal P w K mg base x k n m) (hr : Room k A) (ha : DAL X (e :: es) ma) (hA : X.A = A := by rfl) (hP : X.prog = P := by rfl) (hw : X.w = w := by rfl) (hK : X.K = K := by rfl) (hmg : X.mg = mg := by rfl) (hba : X.base = base := by rfl) (hg : Gl X x := by rfl) (hdb : (x == ("__debug__" : Str)) = false := by decide) (he : starEach (e :: es) X.env = (false, eval e X.env) :: starEach es X.env := by rfl) (hpl : (backTo pos (starEach es X.env)).any (·.1) = false := by rfl) :
    DE X (.Call (.Name x p) (e :: es) [] pos) (mCallL n m ma) := by
  subst hA hP hw hK hmg hba
  obtain ⟨f, fd, ps, g1, g2, g3, g4⟩ := G.ex
  obtain ⟨ta, a1, a2⟩ := ha
  refine ⟨_, pe_call g2 hr hg g1 g3 g4 .nil pass0 a1 hdb he hpl, fun hid O B H σ E d re hm Q q => ?_⟩
  obtain ⟨ds, h1, hm⟩ := bind_some hm
  by_cases hl : ds.length = n
  · rw [if_pos hl] at hm
    obtain ⟨d', h2, hm⟩ := bind_some hm
    obtain ⟨h3, rfl⟩ := ite_some hm
    refine a2 hid O B H σ E ds re h1 _ fun vs H1 e1 r1 => ?_
    rw [List.append_nil]
    exact ⟨lsW hid O H1, ds, d', lsW_m (re.grow e1), r1, hl, h2, fun v H2 e2 r2 => q v H2 (e1.trans e2) (nol_rp (lsW_hW e2) _ h3 r2)⟩
  · rw [if_neg hl] at hm
    cases hm

/-! ### results (d, new list) -/
section
variable {X : Cx} {e1 e2 : Expr} {m1 : En → Option D} {m2 : En → Option (List D)} {pos tpos : Pos}
@[simp] def mRetTF (m1 : En → Option D) (m2 : En → Option (List D)) : En → Option Out := fun E => (m1 E).bind fun d => (m2 E).map fun ds => .tf d ds
theorem ds_retTF {k0} (h1 : DE X e1 m1) (h2 : DF X e2 m2) (hs1 : starEach [e1, e2] X.env = (false, eval e1 X.env) :: starEach [e2] X.env := by rfl) (hs2 : starEach [e2] X.env = (false, eval e2 X.env) :: starEach [] X.env := by rfl) :
    DS X (.Return (some (.Tuple [e1, e2] k0 tpos)) pos) (mRetTF m1 m2) := ⟨_, ps_ret (pe_tup (pa_cons h1.pe (pa_cons h2.pe pa_nil hs2) hs1)), fun hid O B H σ E o Dn r hm k => by
  obtain ⟨d, k1, hm⟩ := bind_some hm
  obtain ⟨ds, k2, rfl⟩ := map_some hm
  refine h1.si hid O B H σ E d r k1 _ fun v H1 e1 r1 => ?_
  refine h2.si hid O B H1 σ E ds (r.grow e1) k2 _ fun p xs H2 hp e2 hx r2 => ?_
  refine ⟨by show (2 : Nat) ≤ sizeLine; decide, fun q hq => ?_⟩
  have e3 : Ex H2 (upd H2 q (.tup [v, .ref p])) := Ex.new hq
  have sub : Ex (rem (orS (orS hid O) (· = p)) (upd H2 q (.tup [v, .ref p]))) (rem (orS hid (· = p)) (upd H2 q (.tup [v, .ref p]))) := rem_sub fun a z => by
    rcases z with z | z
    · exact .inl (.inl z)
    · exact .inr z
  have hqp : q ≠ p := fun z => by
    rw [z, hx] at hq
    cases hq
  have fr : ¬ hid q := fun z => by
    have := (r.grow e1).grow e2
    exact this.fresh hq (.inl z)
  have nv : Ex (rem (orS hid O) H1) (rem (orS (orS hid O) (· = p)) H2) := rem_new hp e2
  refine k q v p xs _ (Evl.fresh_back (r.ex.trans e1) hp) (((r.ex.trans e1).trans e2).trans e3) (e3 p _ hx) ((r2.mono (rem_mono e3) _).mono sub _) (rem_some.mpr ⟨fun z => ?_, upd_same⟩) (((r1.mono nv _).mono (rem_mono e3) _).mono sub _)
  rcases z with z | z
  · exact fr z
  · exact hqp z⟩
end
def callTF (n N : Nat) (body : En → Option Out) : List D → Option (D × List D) := fun ds => match body (ds.map Sl.fz ++ List.replicate (N - ds.length) Sl.un) with
  | some (.tf d es) => some (d, es)
  | _ => none
def spTF (K : PySem.W.Frag) (n : Nat) (m : List D → Option (D × List D)) : Sp := fun vs H Q _ => ∃ (hid : AS) (ds : List D) (d : D) (es : List D), (∀ a, hid a → IsM H a) ∧ RpL K (rem hid H) vs ds ∧ ds.length = n ∧ m ds = some (d, es) ∧
  ∀ q v p xs H', H p = none → Ex H H' → H' p = some (.lst xs) → RpL K (rem (orS hid (· = p)) H') xs es → rem (orS hid (· = p)) H' q = some (.tup [v, .ref p]) → Rp K (rem (orS hid (· = p)) H') v d → Q (.ref q) H'
structure CalTF (P : Program) (w : World) (K : PySem.W.Frag) (mg : Str → Option Value) (base : Heap) (x : Str) (k n : Nat) (m : List D → Option (D × List D)) : Prop where
  ex : ∃ (f : Addr) (fd : FuncData) (ps : List Str), mg x = some (.ref f) ∧ FnOk P w K mg base CX0 k f fd ps (spTF K n m) ∧ PySem.W.keepIn K (.ref f) = true ∧ Binds K fd ps []
section
variable {P : Program} {w : World} {K : PySem.W.Frag} {mg : Str → Option Value} {base : Heap}
theorem fnTF_mk {x : Str} {st : Stmt} {N ps : List Str} {k n : Nat} {m : En → Option Out} {f : Addr} {fd : FuncData} (F : FunD K x x (defArgs st) (defBody st) (defScope st) [] [] f fd) (S : FnScope N ps (defScope st)) (hn : ps.length = n)
    (hbody : ∀ (cdv : Value) (A : Around) (outer : List Env) (s : Shared) (H : Hp) (E : XK), Room k (A.deeper (envOfC x (defScope st) s.heap.objs.size f cdv)) →
      DSs (cxOf CX0 P w K mg base N x (defScope st) f cdv A outer s H E).nox (defBody st) m) : FnOk P w K mg base CX0 (k + 1) f fd ps (spTF K n (callTF n N.length m)) := by
  refine F.ok S (fun vs H Q E h => ?_) (fun cdv A outer s H vs Q E hr h => ?_)
  · obtain ⟨hid, ds, d, es, _, h1, h2, _⟩ := h
    rw [h1.length, h2, hn]
  · obtain ⟨hid, ds, d, es, h0, h1, h2, h3, q⟩ := h
    have T := hbody cdv A outer s H E hr
    refine ⟨_, T.ps.nox, ?_⟩
    have r0 : RE K hid noS H H (start N vs) (ds.map Sl.fz ++ List.replicate (N.length - ds.length) Sl.un) := RE.start h0 h1
    unfold callTF at h3
    split at h3
    · rename_i d' es' e
      cases h3
      exact T.si hid noS H H _ _ (.tf d es) _ r0 e fun t v p xs H' hp ex hx rv st rd => q t v p xs H' hp ex hx rv st rd
    · cases h3
theorem calTF_of {x : Str} {st : Stmt} {ps : List Str} {k n : Nat} {m : List D → Option (D × List D)} (F : Stands K mg x st)
    (hb : ∀ (kV doc pm : Value) (an : Option Addr) (cdv ct : Value) (us : List Value), us.length = ps.length → bindArgs (PySem.W.fnOf x x (defArgs st) (defBody st) (defScope st) .none kV doc pm an cdv ct) ⟨us, []⟩ = pure (ps.zip us))
    (h : ∀ {f : Addr} {fd : FuncData}, FunD K x x (defArgs st) (defBody st) (defScope st) [] [] f fd → FnOk P w K mg base CX0 k f fd ps (spTF K n m)) : CalTF P w K mg base x k n m := by
  obtain ⟨f, fd, g, F⟩ := F.ex
  exact ⟨f, fd, ps, g, h F, F.kp, fun_binds F hb⟩
end
/-- a call of such a def: the pair, frozen -/
@[simp] def tfD : D × List D → D := fun r => .tup [r.1, .lst r.2]
@[simp] def mCallTFL (n : Nat) (m : List D → Option (D × List D)) (a : En → Option (List D)) : En → Option (D × List D) := fun E => (a E).bind fun ds => if ds.length = n then (m ds).bind fun r => if nol r.1 = true ∧ nols r.2 = true then some r else none else none
section
variable {X : Cx} {x : Str} {k n : Nat} {m : List D → Option (D × List D)} {e : Expr} {es : List Expr} {ma : En → Option (List D)} {p pos : Pos} {P : Program} {w : World} {K : PySem.W.Frag} {mg : Str → Option Value} {base : Heap} {A : Around}
def STF (K : PySem.W.Frag) (te : TE) (m : En → Option (D × List D)) : Prop := ∀ (hid O : AS) (B H : Hp) (σ : L2.St) (E : En) (r : D × List D), RE K hid O B H σ E → m E = some r → ∀ Q : VK,
  (∀ q v p xs H', H p = none → Ex H H' → H' p = some (.lst xs) → RpL K (rem (orS (orS hid O) (· = p)) H') xs r.2 → rem (orS (orS hid O) (· = p)) H' q = some (.tup [v, .ref p]) → Rp K (rem (orS (orS hid O) (· = p)) H') v r.1 → Q (.ref q) H') → te σ H Q
def DTF (X : Cx) (e : Expr) (m : En → Option (D × List D)) : Prop := ∃ te, PE X e te ∧ STF X.K te m
theorem dtf_call (G : CalTF P w K mg base x k n m) (hr : Room k A) (ha : DAL X (e :: es) ma) (hA : X.A = A := by rfl) (hP : X.prog = P := by rfl) (hw : X.w = w := by rfl) (hK : X.K = K := by rfl) (hmg : X.mg = mg := by rfl) (hba : X.base = base := by rfl) (hg : Gl X x := by rfl) (hdb : (x == ("__debug__" : Str)) = false := by decide) (he : starEach (e :: es) X.env = (false, eval e X.env) :: starEach es X.env := by rfl) (hpl : (backTo pos (starEach es X.env)).any (·.1) = false := by rfl) :
    DTF X (.Call (.Name x p) (e :: es) [] pos) (mCallTFL n m ma) := by
  subst hA hP hw hK hmg hba
  obtain ⟨f, fd, ps, g1, g2, g3, g4⟩ := G.ex
  obtain ⟨ta, a1, a2⟩ := ha
  refine ⟨_, pe_call g2 hr hg g1 g3 g4 .nil pass0 a1 hdb he hpl, fun hid O B H σ E rr re hm Q q => ?_⟩
  obtain ⟨ds, h1, hm⟩ := bind_some hm
  by_cases hl : ds.length = n
  · rw [if_pos hl] at hm
    obtain ⟨r', h2, hm⟩ := bind_some hm
    obtain ⟨⟨h3, h4⟩, rfl⟩ := ite_some hm
    refine a2 hid O B H σ E ds re h1 _ fun vs H1 e1 r1 => ?_
    rw [List.append_nil]
    refine ⟨lsW hid O H1, ds, r'.1, r'.2, lsW_m (re.grow e1), r1, hl, h2, fun t v p xs H2 hp e2 hx rv st rd => ?_⟩
    have hW : ∀ a, orS (orS hid O) (· = p) a → orS (lsW hid O H1) (· = p) a ∨ ∃ xs, H2 a = some (.lst xs) := fun a z => by
      rcases z with z | z
      · rcases lsW_hW e2 a z with y | y
        · exact .inl (.inl y)
        · exact .inr y
      · exact .inl (.inr z)
    exact q t v p xs H2 (Evl.fresh_back e1 hp) (e1.trans e2) hx (nols_rp hW _ h4 rv) (rem_nlT hW st) (nol_rp hW _ h3 rd)
  · rw [if_neg hl] at hm
    cases hm
theorem DTF.toE {mt : En → Option (D × List D)} (h : DTF X e mt) : DE X e (fun E => (mt E).map tfD) := by
  obtain ⟨te, h1, h2⟩ := h
  refine ⟨_, h1, fun hid O B H σ E d re hm Q q => ?_⟩
  obtain ⟨r, k1, rfl⟩ := map_some hm
  refine h2 hid O B H σ E r re k1 Q fun t v p xs H' hp e hx rv st rd => ?_
  have sub : Ex (rem (orS (orS hid O) (· = p)) H') (rem (orS hid O) H') := rem_sub fun a z => .inl z
  exact q _ H' e (.tup (sub _ _ st) (.cons (rd.mono sub _) (.cons (.lst (rem_some.mpr ⟨fun z => re.fresh hp z, hx⟩) (rv.mono sub _)) .nil)))
/-- x = such a call: the new list is a node -/
@[simp] def mSetTF (i n : Nat) (mt : En → Option (D × List D)) : En → Option Out := fun E => (mt E).bind fun r => if noE n E = true then some (.nx ((E.set n (.nd (.lst (r.2.map .fz)))).set i (.rt (.tp [.fz r.1, .rf n])))) else none
theorem ds_setTF (i n : Nat) {y : Str} {mt : En → Option (D × List D)} {pos' : Pos} (hN : X.N.Nodup) (he : DTF X e mt) (hi : X.N[i]? = some y := by rfl) (hx : Loc X.env.scope y := by first | exact Or.inl rfl | exact Or.inr rfl) (hs : swapsWith e (some (.Name y pos')) pos.line X.env = pure false := by rfl)
    (hf : X.fn y = true ∨ X.env.scope.names.lookup y = some .local := by first | exact .inl rfl | exact .inr rfl) : DS X (.Assign [.Name y pos'] e pos) (mSetTF i n mt) := by
  obtain ⟨te, h1, h2⟩ := he
  refine ⟨_, ps_set hN hi hx h1 hs hf, fun hid O B H σ E o Dn re hm k => ?_⟩
  obtain ⟨r, k1, hm⟩ := bind_some hm
  obtain ⟨no, rfl⟩ := ite_some hm
  refine h2 hid O B H σ E r re k1 _ fun t v p xs H' hp e hx rv st rd => ?_
  have sub : Ex (rem (orS (orS hid O) (· = p)) H') (rem (orS hid (orS O (· ∈ [p]))) H') := rem_sub fun a z => by
    rcases z with z | z | z
    · exact .inl (.inl z)
    · exact .inl (.inr z)
    · exact .inr (List.mem_singleton.mp z)
  obtain ⟨θ, ω, N, z, r3⟩ := re.newN (H' := H') (p := p) (w := []) (x := .lst (r.2.map .fz)) (n := n) (fun a ha => by rw [List.mem_singleton.mp ha]; exact hp) e (fun a ha => by rw [List.mem_singleton.mp ha]; exact .lst hx) no fun θ => ⟨xs, hx, .fz (rv.mono sub _)⟩
  refine k _ _ H' (r3.putR N i (t := .tp [.fz r.1, .rf n]) (.tp (sub _ _ st) (.cons (.fz (rd.mono sub _)) (.cons ?_ .nil))))
  rw [← z]
  exact .rf n
end

/-! ### classes: __init__, made -/
def callI (N n : Nat) (x : Str) (body : En → Option Out) (a : Addr) : List D → Option D := fun ds => match body ((Sl.rt (.rf n) :: (ds.map Sl.fz ++ List.replicate (N - 1 - ds.length) Sl.un)).set n (.nd (.obj (some a) x [] []))) with
  | some (.nx E) => (match E[n]? with
    | some (.nd (.obj q y fs rs)) => if q = some a then ndT (.obj q y fs rs) else none
    | _ => none)
  | _ => none
def spI (K : PySem.W.Frag) (n : Nat) (x : Str) (m : List D → Option D) : Sp := fun vs H Q _ => ∃ (hid : AS) (H0 : Hp) (a dx : Addr) (us : List V) (ds : List D) (d : D), vs = .ref a :: us ∧ H0 a = none ∧ H0 dx = none ∧ dx ≠ a ∧ H = upd (upd H0 dx (.own a)) a (.ins (He.ga K x) dx []) ∧
  (∀ a, hid a → IsM H0 a) ∧ RpL K (rem hid H0) us ds ∧ ds.length = n ∧ m ds = some d ∧ ∀ H', Ex H0 H' → Rp K (rem hid H') (.ref a) d → Q .non H'
structure CalI (P : Program) (w : World) (K : PySem.W.Frag) (mg : Str → Option Value) (base : Heap) (x : Str) (k n : Nat) (m : List D → Option D) : Prop where
  ex : ∃ (f : Addr) (fd : FuncData) (ps : List Str), mg x = some (.ref (He.ga K x)) ∧ Mk K (He.ga K x) f ∧ FnOk P w K mg base CX0 k f fd ps (spI K n x m) ∧ Binds K fd ps []
/-- a method __init__ of the text, its class at x -/
structure StandsI (K : PySem.W.Frag) (mg : Str → Option Value) (x q : Str) (st : Stmt) : Prop where
  ex : ∃ (f : Addr) (fd : FuncData), mg x = some (.ref (He.ga K x)) ∧ Mk K (He.ga K x) f ∧ FunD K "__init__" q (defArgs st) (defBody st) (defScope st) [] [] f fd
section
variable {P : Program} {w : World} {K : PySem.W.Frag} {mg : Str → Option Value} {base : Heap}
theorem fnI_mk {x q : Str} {st : Stmt} {N ps : List Str} {k n j : Nat} {m : En → Option Out} {mi : List D → Option D} {f : Addr} {fd : FuncData} (F : FunD K "__init__" q (defArgs st) (defBody st) (defScope st) [] [] f fd) (S : FnScope N ps (defScope st)) (hn : ps.length = n + 1) (hj0 : 0 < j) (hj : n < j) (hjN : j < N.length)
    (hm : ∀ a ds d, mi ds = some d → callI N.length j x m a ds = some d)
    (hbody : ∀ (cdv : Value) (A : Around) (outer : List Env) (s : Shared) (H : Hp) (E : XK), Room k (A.deeper (envOfC q (defScope st) s.heap.objs.size f cdv)) →
      DSs (cxOf CX0 P w K mg base N q (defScope st) f cdv A outer s H E).nox (defBody st) m) : FnOk P w K mg base CX0 (k + 1) f fd ps (spI K n x mi) := by
  refine F.ok S (fun vs H Q E h => ?_) (fun cdv A outer s H vs Q E hr h => ?_)
  · obtain ⟨hid, H0, a, dx, us, ds, d, rfl, _, _, _, _, _, h1, h2, _⟩ := h
    rw [List.length_cons, h1.length, h2, hn]
  · obtain ⟨hid, H0, a, dx, us, ds, d, rfl, a0, dx0, ne, rfl, h0, h1, h2, h3, k0⟩ := h
    have T := hbody cdv A outer s (upd (upd H0 dx (.own a)) a (.ins (He.ga K x) dx [])) E hr
    refine ⟨_, T.ps.nox, ?_⟩
    have hB : Ex H0 (upd H0 dx (.own a)) := Ex.new dx0
    have ba : upd H0 dx (.own a) a = none := by rw [upd_ne (fun z => ne z.symm)]; exact a0
    have hH : Ex (upd H0 dx (.own a)) (upd (upd H0 dx (.own a)) a (.ins (He.ga K x) dx [])) := Ex.new ba
    have ee := hB.trans hH
    have nh : ¬ hid a := fun z => by
      obtain ⟨o, y, _⟩ := h0 a z
      rw [a0] at y
      cases y
    have vis : Ex (rem hid H0) (rem (orS hid (· = a)) (upd (upd H0 dx (.own a)) a (.ins (He.ga K x) dx []))) := fun b o z => by
      obtain ⟨z1, z2⟩ := rem_some.mp z
      refine rem_some.mpr ⟨fun y => ?_, ee b o z2⟩
      rcases y with y | y
      · exact z1 y
      · rw [y, a0] at z2
        cases z2
    have hlen : us.length = n := by rw [h1.length, h2]
    have sEq : start N (.ref a :: us) = some (.ref a) :: (us.map some ++ List.replicate (N.length - 1 - us.length) none) := by
      unfold L2.start
      rw [List.map_cons, List.length_cons, List.cons_append]
      congr 3
      omega
    have eAt : ∀ (i : Nat) (s : Sl), ((Sl.rt (.rf j) :: (ds.map Sl.fz ++ List.replicate (N.length - 1 - ds.length) Sl.un)).set j (.nd (.obj (some a) x [] [])))[i]? = some s → (i = j ∧ s = .nd (.obj (some a) x [] [])) ∨ (i = 0 ∧ s = .rt (.rf j)) ∨ (∃ t d, i = t + 1 ∧ ds[t]? = some d ∧ s = .fz d) ∨ s = .un := fun i s z => by
      rcases set_at z with ⟨y1, y2⟩ | ⟨y1, y2⟩
      · exact .inl ⟨y1.symm, y2.symm⟩
      · cases i with
        | zero =>
          simp at y2
          exact .inr (.inl ⟨rfl, y2.symm⟩)
        | succ t =>
          rw [List.getElem?_cons_succ] at y2
          rcases start_at y2 with ⟨_, d, y3, y4⟩ | y3
          · exact .inr (.inr (.inl ⟨t, d, rfl, y3, y4⟩))
          · exact .inr (.inr (.inr y3))
    have r0 : RE K hid (· = a) (upd H0 dx (.own a)) (upd (upd H0 dx (.own a)) a (.ins (He.ga K x) dx [])) (start N (.ref a :: us)) ((Sl.rt (.rf j) :: (ds.map Sl.fz ++ List.replicate (N.length - 1 - ds.length) Sl.un)).set j (.nd (.obj (some a) x [] []))) := by
      refine ⟨fun b o z => ⟨hH b o z, fun y => ?_⟩, fun b y => ?_, fun b z => (h0 b z).mono hB, ?_, fun i d z => ?_, fun i es z => ?_, fun i k' p es fs _ z => ?_, ⟨fun _ => a, fun _ => [], fun n' y z => ?_, fun n1 n2 y1 y2 dd z1 z2 => ?_, fun i r z => ?_, fun i n' es y p z => ?_⟩⟩
      · rw [y, ba] at z
        cases z
      · rw [y]
        exact ⟨nh, ⟨_, upd_same, trivial⟩⟩
      · rw [sEq, List.length_set, List.length_cons, List.length_cons, List.length_append, List.length_append, List.length_map, List.length_map, List.length_replicate, List.length_replicate, h1.length]
      · rcases eAt i _ z with ⟨_, y⟩ | ⟨_, y⟩ | ⟨t, d', rfl, y1, y2⟩ | y
        · cases y
        · cases y
        · cases y2
          obtain ⟨v, g1, g2⟩ := h1.get y1
          refine ⟨v, ?_, g2.mono vis _⟩
          have ht : t < us.length := (List.getElem?_eq_some_iff.mp g1).1
          rw [sEq, List.getElem?_cons_succ, List.getElem?_append_left (by rw [List.length_map]; exact ht), List.getElem?_map, g1]
          rfl
        · cases y
      · rcases eAt i _ z with ⟨_, y⟩ | ⟨_, y⟩ | ⟨t, d', rfl, y1, y2⟩ | y
        · cases y
        · cases y
        · cases y2
        · cases y
      · rcases eAt i _ z with ⟨_, y⟩ | ⟨_, y⟩ | ⟨t, d', rfl, y1, y2⟩ | y
        · cases y
        · cases y
        · cases y2
        · cases y
      · rcases eAt n' _ z with ⟨_, y'⟩ | ⟨_, y'⟩ | ⟨t, d', _, y1, y2⟩ | y'
        · cases y'
          exact ⟨fun b hb => List.mem_singleton.mp hb, dx, [], fun b hb => Option.some.inj hb, upd_same, rfl, .nil⟩
        · cases y'
        · cases y2
        · cases y'
      · rcases eAt n1 _ z1 with ⟨u1, y'⟩ | ⟨_, y'⟩ | ⟨t, d', _, _, y'⟩ | y' <;> first | (cases y'; done) | skip
        rcases eAt n2 _ z2 with ⟨u2, y''⟩ | ⟨_, y''⟩ | ⟨t, d', _, _, y''⟩ | y'' <;> first | (cases y''; done) | skip
        exact absurd (u1.trans u2.symm) dd
      · rcases eAt i _ z with ⟨_, y'⟩ | ⟨u, y'⟩ | ⟨t, d', _, _, y'⟩ | y' <;> first | (cases y'; done) | skip
        cases y'
        subst u
        exact ⟨.ref a, by rw [sEq]; rfl, .rf j⟩
      · rcases eAt i _ z with ⟨_, y'⟩ | ⟨_, y'⟩ | ⟨t, d', _, _, y'⟩ | y' <;> cases y'
    have hc := hm a ds d h3
    unfold callI at hc
    split at hc
    · rename_i E' e
      split at hc
      · rename_i qa y fs rs en
        by_cases hq : qa = some a
        · rw [if_pos hq] at hc
          refine T.si hid _ _ _ _ _ (.nx E') _ r0 e fun O' σ' H' r' => ?_
          obtain ⟨θ, ω, N'⟩ := r'.nod
          have ha : θ j = a := by
            obtain ⟨dx', xs, g0, _⟩ := (N'.nd j _ en).2
            exact g0 a hq
          have tv := N'.nodeT en hc
          rw [ha] at tv
          exact k0 H' (hB.trans r'.ex) (tv.show fun p z => (r'.own p z).1)
        · rw [if_neg hq] at hc
          cases hc
      · cases hc
    · cases hc
theorem calI_of {x q : Str} {st : Stmt} {ps : List Str} {k n : Nat} {m : List D → Option D} (F : StandsI K mg x q st)
    (hb : ∀ (kV doc pm : Value) (an : Option Addr) (cdv ct : Value) (us : List Value), us.length = ps.length → bindArgs (PySem.W.fnOf "__init__" q (defArgs st) (defBody st) (defScope st) .none kV doc pm an cdv ct) ⟨us, []⟩ = pure (ps.zip us))
    (h : ∀ {f : Addr} {fd : FuncData}, FunD K "__init__" q (defArgs st) (defBody st) (defScope st) [] [] f fd → FnOk P w K mg base CX0 k f fd ps (spI K n x m)) : CalI P w K mg base x k n m := by
  obtain ⟨f, fd, g, M, F⟩ := F.ex
  refine ⟨f, fd, ps, g, M, h F, ?_⟩
  obtain ⟨oc, od, dV, kV, doc, pm, an, cdv, ct, osl, rfl, lk, hcd, hd, _⟩ := F.ex
  rcases hd with ⟨_, rfl⟩ | ⟨z, _⟩
  · exact .all (hb kV doc pm an cdv ct)
  · exact absurd rfl z
end
section
variable {X : Cx} {x : Str} {k n : Nat} {m : List D → Option D} {e : Expr} {es : List Expr} {ma : En → Option (List D)} {p pos : Pos} {P : Program} {w : World} {K : PySem.W.Frag} {mg : Str → Option Value} {base : Heap} {A : Around}
/-- C(..): frozen at once; arguments may be owned lists -/
theorem de_make (G : CalI P w K mg base x k n m) (hr : Room (k + 1) A) (ha : DAL X (e :: es) ma) (hA : X.A = A := by rfl) (hP : X.prog = P := by rfl) (hw : X.w = w := by rfl) (hK : X.K = K := by rfl) (hmg : X.mg = mg := by rfl) (hba : X.base = base := by rfl) (hg : Gl X x := by rfl) (hdb : (x == ("__debug__" : Str)) = false := by decide) (he : starEach (e :: es) X.env = (false, eval e X.env) :: starEach es X.env := by rfl) (hpl : (backTo pos (starEach es X.env)).any (·.1) = false := by rfl) :
    DE X (.Call (.Name x p) (e :: es) [] pos) (mCallL n m ma) := by
  subst hA hP hw hK hmg hba
  obtain ⟨f, fd, ps, g1, g2, g3, g4⟩ := G.ex
  obtain ⟨ta, a1, a2⟩ := ha
  refine ⟨_, pe_make g2 g3 hr hg g1 g4 .nil pass0 a1 hdb he hpl, fun hid O B H σ E d re hm Q q => ?_⟩
  obtain ⟨ds, h1, hm⟩ := bind_some hm
  by_cases hl : ds.length = n
  · rw [if_pos hl] at hm
    obtain ⟨d', h2, hm⟩ := bind_some hm
    obtain ⟨h3, rfl⟩ := ite_some hm
    refine a2 hid O B H σ E ds re h1 _ fun vs H1 e1 r1 => fun a dx ha hdx ne => ?_
    rw [List.append_nil]
    exact ⟨lsW hid O H1, H1, a, dx, vs, ds, d', rfl, ha, hdx, ne, rfl, lsW_m (re.grow e1), r1, hl, h2, fun H2 e2 r2 => ⟨rfl, q _ H2 (e1.trans e2) (nol_rp (lsW_hW e2) _ h3 r2)⟩⟩
  · rw [if_neg hl] at hm
    cases hm
end
end Sx

set_option Elab.async false
set_option linter.all false
set_option maxRecDepth 100000
set_option maxHeartbeats 1000000
namespace Sx
open PySem PySem.Spec PyProof.Rows L2
open Evl (Ex)
/-! ### constants of the module -/
section
variable {X : Cx} {x : Str} {pos : Pos}
theorem de_gint {i : Int} (h : ∃ t, X.mg x = some (.int i t)) (hg : Gl X x := by rfl) (hd : (x == ("__debug__" : Str)) = false := by decide) : DE X (.Name x pos) (mC (.int i)) := by
  obtain ⟨t, h⟩ := h
  exact ⟨_, pe_glob (v := .int i) hg h ⟨t, rfl⟩ hd, se_c fun _ => .int i⟩
theorem de_gstr {z : Str} (h : ∃ t, X.mg x = some (.str z t)) (hg : Gl X x := by rfl) (hd : (x == ("__debug__" : Str)) = false := by decide) : DE X (.Name x pos) (mC (.str z)) := by
  obtain ⟨t, h⟩ := h
  exact ⟨_, pe_glob (v := .str z) hg h ⟨t, rfl⟩ hd, se_c fun _ => .str z⟩
end
/-! ### x[k] op= e -/
theorem get_list {X : Cx} : PGet X (rIxL X.K) := by
  intro pins s σ H x y v u Q I rx ry h
  obtain ⟨p, xs, i, z, rfl, rfl, hq, he, q⟩ := h
  cases rx
  obtain ⟨t, rfl⟩ := ry
  obtain ⟨its, r, pl, hz⟩ := I.list hq
  obtain ⟨j, h1, h2, h3, h4, h5⟩ := atI_get he
  obtain ⟨w, ew, rw'⟩ := r.get h2
  have hl := r.length
  have hn := line63
  have fin : EP X pins σ Q w s := ⟨z, H, I, rw', q⟩
  by_cases h0 : 0 ≤ i
  · have hj : i.toNat = j := by
      rw [seqIndex_of h0 h5] at h1
      exact Option.some.inj h1
    exact getItem_listL pl.isList h0 (by omega) (by rw [hj]; exact ew) fin
  · have hj : (i + (its.toArray.size : Int)).toNat = j := by
      rw [seqIndex_neg (by omega) h4] at h1
      rw [List.size_toArray, ← hl]
      exact Option.some.inj h1
    exact wpAny_getItem_list_neg pl.isList (by omega) (by rw [List.size_toArray] <;> omega) (by omega) (by rw [hj]; simpa using ew) fin
section
variable {X : Cx} {e k : Expr} {m mk : En → Option D} {x : Str} {p pos spos : Pos}
@[simp] def mAugS (f : Int → Int → Int) (i : Nat) (m mk : En → Option D) : En → Option Out := fun E => (mk E).bind fun a => (m E).bind fun d => match E[i]? with
  | some (.ow ds) => (match a, d with
    | .int j, .int b => (ixN ds.length j).bind fun u => (match ds[u]? with
      | some (.int c) => some (.nx (E.set i (.ow (ds.set u (.int (f c b))))))
      | _ => none)
    | _, _ => none)
  | _ => none
theorem ss_augS {K : PySem.W.Frag} {f : Int → Int → Int} (i : Nat) {te tk : TE} (he : SE K te m) (hk : SE K tk mk) : SS K (tAugS (tVar i) tk te (rIxL K) (ipI f) rSetL) (mAugS f i m mk) := fun hid O B H σ E o Dn r hm kk => by
  obtain ⟨a, h0, hm⟩ := bind_some hm
  obtain ⟨d, h1, hm⟩ := bind_some hm
  obtain ⟨ds, h2, hm⟩ := ow_of (d := d) hm
  split at hm
  · rename_i j b
    obtain ⟨u, h3, hm⟩ := bind_some hm
    split at hm
    · rename_i c h4
      cases hm
      obtain ⟨q, xs, g1, g2, g3, g4⟩ := r.ow i ds h2
      refine ⟨.ref q, g1, ?_⟩
      refine hk hid O B H σ E _ r h0 _ fun v H1 e1 r1 => ?_
      cases r1
      have g4' := g4.mono (rem_mono e1) _
      obtain ⟨y, y1, y2⟩ := g4'.get h4
      cases y2
      refine ⟨q, xs, _, .int c, rfl, rfl, .inl (.inl (e1 q _ g3)), ?_, ?_⟩
      · unfold atI
        rw [g4.length, h3]
        exact y1
      · refine he hid O B H1 σ E _ (r.grow e1) h1 _ fun w H2 e2 r2 => ?_
        cases r2
        refine ⟨_, _, rfl, rfl, q, xs, _, u, rfl, rfl, e2 q _ (e1 q _ g3), by rw [g4.length]; exact h3, ?_⟩
        have e12 := e1.trans e2
        exact kk O σ _ ((r.grow e12).chg h2 g1 ((g4.mono (rem_mono e12) _).set (.int _) u))
    · cases hm
  · cases hm
theorem ds_augSAdd (i : Nat) (he : DE X e m) (hk : DE X k mk) (hN : X.N[i]? = some x := by rfl) (hv : Vis X.env.scope x := by first | exact Or.inl rfl | exact Or.inr (Or.inl rfl) | exact Or.inr (Or.inr rfl)) (hd : (x == ("__debug__" : Str)) = false := by decide) (hcd : (x == ("__classdict__" : Str)) = false := by decide)
    (ha : ∀ ov iv new, augStore k ov iv new = (do holding [new, ov, iv] (setItem ov iv new); release [new, ov, iv] []; pure .next) := by intros; rfl) : DS X (.AugAssign (.Subscript (.Name x p) k spos) .Add e pos) (mAugS (fun i j => i + j) i m mk) :=
  ⟨_, ps_augS (pe_var hN hv hd hcd) hk.pe get_list he.pe ip_add set_list ha, ss_augS i he.si hk.si⟩
theorem ds_augSSub (i : Nat) (he : DE X e m) (hk : DE X k mk) (hN : X.N[i]? = some x := by rfl) (hv : Vis X.env.scope x := by first | exact Or.inl rfl | exact Or.inr (Or.inl rfl) | exact Or.inr (Or.inr rfl)) (hd : (x == ("__debug__" : Str)) = false := by decide) (hcd : (x == ("__classdict__" : Str)) = false := by decide)
    (ha : ∀ ov iv new, augStore k ov iv new = (do holding [new, ov, iv] (setItem ov iv new); release [new, ov, iv] []; pure .next) := by intros; rfl) : DS X (.AugAssign (.Subscript (.Name x p) k spos) .Sub e pos) (mAugS (fun i j => i - j) i m mk) :=
  ⟨_, ps_augS (pe_var hN hv hd hcd) hk.pe get_list he.pe ip_sub set_list ha, ss_augS i he.si hk.si⟩
end
/-! ### zip -/
def zipD (as bs : List D) : List D := List.zipWith (fun a b => D.tup [a, b]) as bs
theorem zipD_len (as bs : List D) : (zipD as bs).length = min as.length bs.length := List.length_zipWith ..
theorem Yd.zip {K : PySem.W.Frag} {W : AS} {H2 : Hp} {xs ys : List V} {as bs : List D} (h : RpL K (rem W H2) xs as) (g : RpL K (rem W H2) ys bs) : Yd K W H2 (zipD as bs) (YPair (fun i => xs[i]?) (fun i => ys[i]?)) := fun i H1 x H1' W' d y hd e hn => by
  obtain ⟨T, a, b, rfl, hT, rfl, ha, hb⟩ := y
  unfold zipD at hd
  rw [List.getElem?_zipWith] at hd
  cases ea : as[i]? with
  | none => rw [ea] at hd; cases hd
  | some da =>
    cases eb : bs[i]? with
    | none => rw [ea, eb] at hd; cases hd
    | some db =>
      rw [ea, eb] at hd
      cases hd
      obtain ⟨v, v1, v2⟩ := h.get ea
      obtain ⟨w, w1, w2⟩ := g.get eb
      have ha' : xs[i]? = some a := ha
      have hb' : ys[i]? = some b := hb
      rw [v1] at ha'
      rw [w1] at hb'
      cases ha'
      cases hb'
      have ex : Ex H1 (upd H1 T (.tup [a, b])) := Ex.new hT
      exact ⟨ex, .tup (rem_some.mpr ⟨hn T hT, upd_same⟩) (.cons ((v2.mono e da).mono (rem_mono ex) da) (.cons ((w2.mono e db).mono (rem_mono ex) db) .nil))⟩
section
variable {X : Cx} {e e2 : Expr} {m m2 : En → Option D} {p pos tpos : Pos} {elts : List Expr} {kk : Nat}
@[simp] def zipOf : D → D → Option (List D)
  | .lst as, .lst bs => some (zipD as bs)
  | .tup as, .tup bs => some (zipD as bs)
  | _, _ => none
theorem di_zip (hm : X.mg "zip" = none) (h : DE X e m) (h2 : DE X e2 m2) (hg : Gl X "zip" := by rfl) (hs : starEach [e, e2] X.env = (false, eval e X.env) :: starEach [e2] X.env := by rfl) (hs2 : starEach [e2] X.env = (false, eval e2 X.env) :: starEach [] X.env := by rfl) (hpl : (backTo pos (starEach [e2] X.env)).any (·.1) = false := by rfl) :
    DI X (.Tuple elts kk tpos) (.Call (.Name "zip" p) [e, e2] [] pos) (fun E => (m E).bind fun a => (m2 E).bind fun b => zipOf a b) := ⟨_, RZ.pi_zipA hg hm (pa_cons h.pe (pa_cons h2.pe pa_nil hs2) hs) hs hpl, fun hid O B H σ E ds r hm R k => by
  obtain ⟨a, k1, hm⟩ := bind_some hm
  obtain ⟨b, k2, hm⟩ := bind_some hm
  refine h.si hid O B H σ E a r k1 _ fun v H1 e1 r1 => ?_
  refine h2.si hid O B H1 σ E b (r.grow e1) k2 _ fun w H2 e2 r2 => ?_
  have r1' := r1.mono (rem_mono e2) _
  unfold zipOf at hm
  split at hm
  · cases hm
    cases r1' with
    | @lst p xs _ g1 g2 =>
      cases r2 with
      | @lst p' ys _ g3 g4 =>
        refine ⟨p, p', xs, ys, rfl, .inl ⟨.inl (.inl (rem_some.mp g1).2), .inl (.inl (rem_some.mp g3).2), ?_⟩⟩
        have wk := walk_zip (K := X.K) (a := p) (b := p') (xs := xs) (ys := ys) (n := (zipD _ _).length) (by rw [zipD_len, g2.length, g4.length])
        exact k _ H2 _ _ (e1.trans e2) wk (fun H' z => ⟨.inl (.inl (z p _ g1)), .inl (.inl (z p' _ g3))⟩) (Yd.zip g2 g4)
  · rename_i as bs _
    cases hm
    cases r1' with
    | @tup p xs _ g1 g2 =>
      cases r2 with
      | @tup p' ys _ g3 g4 =>
        refine ⟨p, p', xs, ys, rfl, .inr ⟨Evl.st_of (rem_some.mp g1).2, Evl.st_of (rem_some.mp g3).2, ?_⟩⟩
        have wk : Walk (RZ.ItzT X.K p p') (zipD as bs).length (fun H => SqT X.K H p xs ∧ SqT X.K H p' ys) (YPair (fun i => xs[i]?) (fun i => ys[i]?)) := by
          rw [zipD_len, ← g2.length, ← g4.length]
          refine ⟨fun i _ hi q => ?_, fun _ q => ⟨xs, ys, q.1, q.2, by omega⟩, fun i H v H' _ q y => ?_⟩
          · exact ⟨xs, ys, xs[i], ys[i], q.1, q.2, List.getElem?_eq_getElem (by omega), List.getElem?_eq_getElem (by omega)⟩
          · obtain ⟨T, x, z, h1, h2, h3, h4, h5⟩ := y
            exact ⟨T, x, z, h1, h2, h3, h4 xs q.1, h5 ys q.2⟩
        exact k _ H2 _ _ (e1.trans e2) wk (fun H' z => ⟨Evl.st_of (z _ _ g1), Evl.st_of (z _ _ g3)⟩) (Yd.zip g2 g4)
  · cases hm⟩
end
end Sx

set_option Elab.async false
set_option linter.all false
set_option maxRecDepth 100000
set_option maxHeartbeats 1000000
namespace Sx
open PySem PySem.Spec PyProof.Rows L2
open Evl (Ex)
/-! ### d.get(k), d.get(k, x) -/
theorem isD_ho {H : Hp} {p : Addr} {ks : KS} {xs : List V} (h : H p = some (ks.ho xs)) : IsD H p := by
  cases ks with
  | k ks => exact .inl ⟨_, .inl h⟩
  | t ks => exact .inr ⟨_, .inl h⟩
theorem getD_rp {K : PySem.W.Frag} {Hv : Hp} {ov : Option V} {o : Option D} {v0 : V} {d0 : D} (h1 : ∀ d, o = some d → ∃ w, ov = some w ∧ Rp K Hv w d) (h2 : o = none → ov = none) (h0 : Rp K Hv v0 d0) : Rp K Hv (ov.getD v0) (o.getD d0) := by
  cases o with
  | some d =>
    obtain ⟨w, rfl, h⟩ := h1 d rfl
    exact h
  | none =>
    rw [h2 rfl]
    exact h0
section
variable {X : Cx} {o e f : Expr} {mo me mf : En → Option D} {apos cpos : Pos} {A : Around} {kk : Nat}
@[simp] def getN : D → D → Option D
  | .dct ks ds, y => (atKS ks ds y).map fun o => o.getD .non
  | _, _ => none
@[simp] def getX : D → D → D → Option D
  | .dct ks ds, y, z => (atKS ks ds y).map fun o => o.getD z
  | _, _, _ => none
theorem de_get1 (hr : Room kk A) (ho : DT X o mo) (he : DT X e me) (hA : X.A = A := by rfl) (m : M1 X o "get" apos e cpos := by exact ⟨rfl, rfl, rfl, rfl⟩) : DE X (.Call (.Attribute o "get" apos) [e] [] cpos) (mBin getN mo me) := ⟨_, pe_dget1 (hu_of hr hA) ho.pe he.pe m, fun hid O B H σ E d re hm Q q => by
  obtain ⟨x, h1, hm⟩ := bind_some hm
  obtain ⟨y, h2, hm⟩ := bind_some hm
  unfold getN at hm
  split at hm
  · obtain ⟨k, h3, h4⟩ := map_some hm
    refine ho.si hid O B H σ E _ re h1 _ fun v H1 e1 r1 => ?_
    obtain ⟨p, xs, rfl, g1, g2, g3⟩ := r1.dct
    refine ⟨p, rfl, isD_ho g1, ?_⟩
    refine he.si hid O B H1 σ E y (re.grow e1) h2 _ fun u H2 e2 r2 => ?_
    have g3' := g3.mono (rem_mono e2) _
    obtain ⟨ov, o1, o2, o3⟩ := dget_tv r2 (e2 _ _ g1) g3' h3
    refine ⟨ov, o1, ?_⟩
    subst h4
    exact q _ H2 (e1.trans e2) (getD_rp o2 o3 .non)
  · cases hm⟩
theorem de_get2 (hr : Room kk A) (ho : DT X o mo) (he : DT X e me) (hf : DE X f mf) (hA : X.A = A := by rfl) (m : M2 X o "get" apos e f cpos := by exact ⟨rfl, rfl, rfl, rfl⟩) : DE X (.Call (.Attribute o "get" apos) [e, f] [] cpos) (fun E => (mo E).bind fun x => (me E).bind fun y => (mf E).bind fun z => getX x y z) := ⟨_, pe_dget2 (hu_of hr hA) ho.pe he.pe hf.pe m, fun hid O B H σ E d re hm Q q => by
  obtain ⟨x, h1, hm⟩ := bind_some hm
  obtain ⟨y, h2, hm⟩ := bind_some hm
  obtain ⟨z, h5, hm⟩ := bind_some hm
  unfold getX at hm
  split at hm
  · obtain ⟨k, h3, h4⟩ := map_some hm
    refine ho.si hid O B H σ E _ re h1 _ fun v H1 e1 r1 => ?_
    obtain ⟨p, xs, rfl, g1, g2, g3⟩ := r1.dct
    refine ⟨p, rfl, isD_ho g1, ?_⟩
    refine he.si hid O B H1 σ E y (re.grow e1) h2 _ fun u H2 e2 r2 => ?_
    refine hf.si hid O B H2 σ E z (re.grow (e1.trans e2)) h5 _ fun t H3 e3 r3 => ?_
    have g3' := g3.mono (rem_mono (e2.trans e3)) _
    obtain ⟨ov, o1, o2, o3⟩ := dget_tv (r2.mono e3) (e3 _ _ (e2 _ _ g1)) g3' h3
    refine ⟨ov, o1, ?_⟩
    subst h4
    exact q _ H3 ((e1.trans e2).trans e3) (getD_rp o2 o3 r3)
  · cases hm⟩
end
end Sx

set_option Elab.async false
set_option linter.all false
set_option maxRecDepth 100000
set_option maxHeartbeats 1000000
namespace Sx
open PySem PySem.Spec PyProof.Rows L2
open Evl (Ex)
/-! ### {k: v for .. in ..}, keys ints and texts -/
section
variable {κ : Type} [DecidableEq κ] {K : PySem.W.Frag} {H : Hp} {k : κ}
theorem zipRp {y : V} {d : D} (hy : Rp K H y d) : ∀ {ks : List κ} {xs : List V} {ds : List D}, RpL K H xs ds → RpL K H (List.zipWith (fun j x => if j = k then y else x) ks xs) (List.zipWith (fun j x => if j = k then d else x) ks ds)
  | [], xs, ds, _ => by cases xs <;> cases ds <;> exact .nil
  | j :: ks, xs, [], h => by cases h; exact .nil
  | j :: ks, xs, d' :: ds, h => by
    cases h with
    | cons h1 h2 =>
      rw [List.zipWith_cons_cons, List.zipWith_cons_cons]
      refine .cons ?_ (zipRp hy h2)
      by_cases e : j = k
      · rw [if_pos e, if_pos e]; exact hy
      · rw [if_neg e, if_neg e]; exact h1
theorem putRp {y : V} {d : D} (hy : Rp K H y d) {ks : List κ} {xs : List V} {ds : List D} (h : RpL K H xs ds) : RpL K H (putVal ks xs k y) (putVal ks ds k d) := by
  unfold putVal
  by_cases e : k ∈ ks
  · rw [if_pos e, if_pos e]; exact zipRp hy h
  · rw [if_neg e, if_neg e]; exact h.app (.one hy)
theorem putKey_le (ks : List κ) : (putKey ks k).length ≤ ks.length + 1 := by
  unfold putKey
  split
  · omega
  · rw [List.length_append]; simp
end
def runDc (mg : En → D → Option En) (mt : En → Option Bool) (mk mv : En → Option D) (E0 : En) : List D → List Key → List D → Option (List Key × List D)
  | [], ks, rs => some (ks, rs)
  | d :: ds, ks, rs => (mg E0 d).bind fun E1 => (mt E1).bind fun b => if b = true then (mk E1).bind fun a => (keyD a).bind fun κ => (mv E1).bind fun v => runDc mg mt mk mv E0 ds (putKey ks κ) (putVal ks rs κ v) else runDc mg mt mk mv E0 ds ks rs
@[simp] def mDc (vs : List Nat) (mi : En → Option (List D)) (mg : En → D → Option En) (mt : En → Option Bool) (mk mv : En → Option D) : En → Option D := fun E => (mi E).bind fun ds => if ds.length ≤ 100000 then (runDc mg mt mk mv (wipeE E vs) ds [] []).map fun r => .dct (.k r.1) r.2 else none
theorem se_dc {K : PySem.W.Frag} {wi : TI} {g : TG} {tt : TT} {tk tv : TE} {vs js : List Nat} {mi : En → Option (List D)} {mg : En → D → Option En} {mt : En → Option Bool} {mk mv : En → Option D}
    (hi : SIT K wi mi) (hg : SG K g js mg) (hjs : ∀ j ∈ js, j ∈ vs) (ht : SB K tt mt) (hk : SE K tk mk) (hv : SE K tv mv) : SE K (tDc wi g tt tk tv vs) (mDc vs mi mg mt mk mv) := fun hid O B H σ E out r hm Q q => by
  obtain ⟨ds, h1, hm⟩ := bind_some hm
  have hz : ds.length ≤ 100000 ∧ (runDc mg mt mk mv (wipeE E vs) ds [] []).map (fun r => D.dct (.k r.1) r.2) = some out := by
    by_cases hz : ds.length ≤ 100000
    · rw [if_pos hz] at hm
      exact ⟨hz, hm⟩
    · rw [if_neg hz] at hm
      cases hm
  obtain ⟨hz, hm⟩ := hz
  obtain ⟨⟨ko, ro⟩, hm0, rfl⟩ := map_some hm
  refine hi hid O B H σ E ds r h1 _ fun J H2 G Y e2 w hG hY Dl hD => ?_
  have r2 := r.grow e2
  have assoc1 : ∀ a, orS hid O a → orS hid (orS O (· = Dl)) a := fun a z => by
    rcases z with z | z
    · exact .inl z
    · exact .inr (.inl z)
  have assoc2 : ∀ a, orS hid (orS O (· = Dl)) a → orS (orS hid O) (· = Dl) a := fun a z => by
    rcases z with z | z | z
    · exact .inl (.inl z)
    · exact .inl (.inr z)
    · exact .inr z
  let Pv : Nat → Hp → Prop := fun i H' => Ex H2 H' ∧ ∃ ks xs rs, H' Dl = some (.dK (ks.zip xs)) ∧ ks.length = xs.length ∧ RpL K (rem (orS hid (orS O (· = Dl))) H') xs rs ∧ runDc mg mt mk mv (wipeE E vs) (ds.drop i) ks rs = some (ko, ro) ∧ xs.length ≤ i
  refine ⟨fun i m H => m = ds.length - i ∧ i ≤ ds.length ∧ Pv i H, ⟨ds.length, by simp, Nat.zero_le _, Ex.new hD, [], [], [], upd_same, rfl, .nil, hm0, Nat.zero_le _⟩, ?_⟩
  rintro i m H3 ⟨rfl, hi', e3, ks, xs, rs, g1, g2, g3, g4, g5⟩
  have q0 := hG H3 e3
  by_cases hlt : i < ds.length
  · refine .inr ⟨w.goes i H3 hlt q0, Pv (i + 1), fun H' p' => ⟨ds.length - (i + 1), by omega, rfl, hlt, p'⟩, fun x H3' y => ?_⟩
    have y := w.yields i H3 x H3' hlt q0 y
    rw [List.drop_eq_getElem_cons hlt] at g4
    obtain ⟨E1, k1, g4⟩ := bind_some g4
    obtain ⟨b, k2, g4⟩ := bind_some g4
    have rA : RE K hid (orS O (· = Dl)) B H3 σ E := r2.addO' hD e3 ⟨_, g1, trivial⟩
    have exv : Ex (rem (orS hid O) H2) (rem (orS hid (orS O (· = Dl))) H3) := fun a o z => rem_sub assoc2 _ _ (rem_new hD e3 a o z)
    obtain ⟨e4, rx⟩ := hY i H3 x H3' (orS hid (orS O (· = Dl))) ds[i] y (List.getElem?_eq_getElem hlt) exv (fun p hp => rA.fresh hp)
    have rW := (rA.grow e4).wiped vs
    refine hg hid _ B H3' _ _ x ds[i] E1 rW rx k1 _ fun σ2 r3 w3 => ⟨?_, ?_⟩
    · have := w3 vs hjs
      rw [this]
      refine List.ext_getElem? fun j => ?_
      rw [wipe_get, wipe_get, wipe_length]
      by_cases hj : j ∈ vs ∧ j < σ.length
      · rw [if_pos hj, if_pos hj]
      · rw [if_neg hj, if_neg hj]
    · refine ht hid _ B H3' σ2 E1 b r3 k2 _ fun H5 e5 => ?_
      cases b with
      | true =>
        rw [if_pos rfl] at g4 ⊢
        obtain ⟨a, k3, g4⟩ := bind_some g4
        obtain ⟨κ, k4, g4⟩ := bind_some g4
        obtain ⟨v, k5, g4⟩ := bind_some g4
        refine hk hid _ B H5 σ2 E1 a (r3.grow e5) k3 _ fun y H6 e6 ry => ?_
        refine hv hid _ B H6 σ2 E1 v ((r3.grow e5).grow e6) k5 _ fun z H7 e7 rz => ?_
        have e37 := ((e4.trans e5).trans e6).trans e7
        obtain rfl := keyD_rp ry k4
        refine ⟨_, κ, rfl, e37 Dl _ g1, by rw [List.length_zip]; exact size_lt (by omega), Evl.Ex.mut (e3.trans e37) hD, putKey ks κ, putVal ks xs κ z, putVal ks rs κ v, ?_, put_len _ _ _ _ g2, ?_, g4, ?_⟩
        · rw [upd_same, putK_zip _ _ _ _ g2]
        · exact (putRp rz (g3.mono (rem_mono e37) _)).mono (rem_upd (.inr (.inr rfl))) _
        · have h1 := put_len κ z ks xs g2
          have h2 := putKey_le (k := κ) ks
          omega
      | false =>
        rw [if_neg Bool.false_ne_true] at g4 ⊢
        have e35 := e4.trans e5
        exact ⟨e3.trans e35, ks, xs, rs, e35 Dl _ g1, g2, g3.mono (rem_mono e35) _, g4, by omega⟩
  · have : i = ds.length := by omega
    subst this
    rw [List.drop_length] at g4
    cases g4
    exact .inl ⟨w.stops H3 q0, q _ H3 (e2.trans e3) (.dct (rem_some.mpr ⟨fun z => r2.fresh hD z, g1⟩) g2 (g3.mono (rem_sub assoc1) _))⟩
theorem de_dc {X : Cx} {kx vx tg iter : Expr} {ifs : List Expr} {scope : Scope} {own : List (Str × Nat)} {pos : Pos} {js : List Nat} {mi : En → Option (List D)} {mg : En → D → Option En} {mt : En → Option Bool} {mk mv : En → Option D}
    (hc : X.calm = true) (hN : X.N.Nodup) (hi : DIT X tg iter mi) (ok : BlkOk X.N X.env.scope scope own) (hjs : ∀ j ∈ js, j ∈ own.map (·.2))
    (hg : ∀ (s : Shared) (H : Hp) (C : Addr) (cl : List (Str × Addr)) (fp : List Addr), DG (X.blk s H scope (compEnvC scope cl C X.env) fp) tg js mg) (ht : ∀ (s : Shared) (H : Hp) (C : Addr) (cl : List (Str × Addr)) (fp : List Addr), DTs (X.blk s H scope (compEnvC scope cl C X.env) fp) ifs mt)
    (hk : ∀ (s : Shared) (H : Hp) (C : Addr) (cl : List (Str × Addr)) (fp : List Addr), DE (X.blk s H scope (compEnvC scope cl C X.env) fp) kx mk) (he : ∀ (s : Shared) (H : Hp) (C : Addr) (cl : List (Str × Addr)) (fp : List Addr), DE (X.blk s H scope (compEnvC scope cl C X.env) fp) vx mv) (hs : ∀ x, foldedSetIterable iter X.env x = pure x := by intro _; rfl) :
    DE X (.DictComp kx vx [⟨tg, iter, ifs, 0⟩] scope pos) (mDc (own.map (·.2)) mi mg mt mk mv) :=
  ⟨_, pe_dc hc hN hi.pi ok (fun s H C cl fp => (hg s H C cl fp).pg) (fun s H C cl fp => (ht s H C cl fp).pt) (fun s H C cl fp => (hk s H C cl fp).pe) (fun s H C cl fp => (he s H C cl fp).pe) hs,
    se_dc hi.si (hg X.s_0 X.H_0 0 [] []).si hjs (ht X.s_0 X.H_0 0 [] []).si (hk X.s_0 X.H_0 0 [] []).si (he X.s_0 X.H_0 0 [] []).si⟩
end Sx

set_option Elab.async false
set_option linter.all false
set_option maxRecDepth 100000
set_option maxHeartbeats 1000000
namespace Sx
open PySem PySem.Spec PyProof.Rows L2
open Evl (Ex)

theorem ite_someL {α : Type} {c : Prop} [Decidable c] {x : Option α} {y : α} (h : (if c then x else none) = some y) : c ∧ x = some y := by
  by_cases hc : c
  · rw [if_pos hc] at h
    exact ⟨hc, h⟩
  · rw [if_neg hc] at h
    cases h
/-! ### what may be raised (classes without fields) -/
/-- how a def ends -/
inductive RX where
  | ok (d : D) | ex (x : Str)
inductive OutX where
  | o (o : Out) | ex (x : Str) (E : En)
def EndX (K : PySem.W.Frag) (hid : AS) (B : Hp) (Dn : Ends) (W : WX) : OutX → Prop
  | .o o => End K hid B Dn o
  | .ex x E => ∀ O σ H, RE K hid O B H σ E → W (.ref (He.ga K x)) none σ H
def SSX (K : PySem.W.Frag) (W : WX) (t : TS) (m : En → Option OutX) : Prop := ∀ (hid O : AS) (B H : Hp) (σ : L2.St) (E : En) (o : OutX) (Dn : Ends), RE K hid O B H σ E → m E = some o → EndX K hid B Dn W o → t Dn σ H
def tXq (K : PySem.W.Frag) (W : WX) (m : En → Option OutX) : TS := fun Dn σ H => ∃ (hid O : AS) (B : Hp) (E : En) (o : OutX), RE K hid O B H σ E ∧ m E = some o ∧ EndX K hid B Dn W o
def DX (X : Cx) (W : WX) (st : Stmt) (m : En → Option OutX) : Prop := ∃ t, PS X st t ∧ SSX X.K W t m
def DXs (X : Cx) (W : WX) (sts : List Stmt) (m : En → Option OutX) : Prop := ∃ t, PSs X sts t ∧ SSX X.K W t m
theorem DX.ps {X : Cx} {W : WX} {st : Stmt} {m : En → Option OutX} (h : DX X W st m) : PS X st (tXq X.K W m) := by
  obtain ⟨te, p, s⟩ := h
  exact ⟨fun pins s0 σ H Q I h => p.run pins s0 σ H Q I (by obtain ⟨hid, O, B, E, d, r, hm, q⟩ := h; exact s hid O B H σ E d Q r hm q)⟩
theorem DX.si {X : Cx} {W : WX} {st : Stmt} {m : En → Option OutX} (h : DX X W st m) : SSX X.K W (tXq X.K W m) m := fun hid O B H σ E d Q r hm q => ⟨hid, O, B, E, d, r, hm, q⟩
theorem DXs.ps {X : Cx} {W : WX} {st : List Stmt} {m : En → Option OutX} (h : DXs X W st m) : PSs X st (tXq X.K W m) := by
  obtain ⟨te, p, s⟩ := h
  exact ⟨fun pins s0 σ H Q I h => p.run pins s0 σ H Q I (by obtain ⟨hid, O, B, E, d, r, hm, q⟩ := h; exact s hid O B H σ E d Q r hm q)⟩
theorem DXs.si {X : Cx} {W : WX} {st : List Stmt} {m : En → Option OutX} (h : DXs X W st m) : SSX X.K W (tXq X.K W m) m := fun hid O B H σ E d Q r hm q => ⟨hid, O, B, E, d, r, hm, q⟩
@[simp] def mO (m : En → Option Out) : En → Option OutX := fun E => (m E).map .o
@[simp] def mSeqX (a b : En → Option OutX) : En → Option OutX := fun E => (a E).bind fun o => match o with
  | .o (.nx E1) => b E1
  | o => some o
@[simp] def mNextX : En → Option OutX := fun E => some (.o (.nx E))
@[simp] def mIfX (c : En → Option Bool) (a b : En → Option OutX) : En → Option OutX := fun E => (c E).bind fun k => if k = true then a E else b E
def runForX (mg : En → D → Option En) (mb : En → Option OutX) : List D → En → Option OutX
  | [], E => some (.o (.nx E))
  | d :: ds, E => (mg E d).bind fun E1 => (mb E1).bind fun o => match o with
    | .o (.nx E2) => runForX mg mb ds E2
    | .o (.ct E2) => runForX mg mb ds E2
    | .o (.bk E2) => some (.o (.nx E2))
    | .o (.rt r) => some (.o (.rt r))
    | .o (.rf r) => some (.o (.rf r))
    | .o (.tf d r) => some (.o (.tf d r))
    | .ex x E2 => some (.ex x E2)
@[simp] def mForX (mi : En → Option (List D)) (mg : En → D → Option En) (mb : En → Option OutX) : En → Option OutX := fun E => (mi E).bind fun ds => runForX mg mb ds E
section
variable {X : Cx} {W : WX} {pos : Pos} {st : Stmt} {rest : List Stmt} {m n : En → Option OutX}
theorem dx_of {mo : En → Option Out} (h : DS X st mo) : DX X W st (mO mo) := ⟨_, h.ps, fun hid O B H σ E o Dn r hm k => by
  obtain ⟨o1, k1, rfl⟩ := map_some hm
  exact h.si hid O B H σ E o1 Dn r k1 k⟩
theorem dxs_nil : DXs X W [] mNextX := ⟨_, pss_nil, fun hid O B H σ E o Dn r hm k => by
  cases hm
  exact k O σ H r⟩
theorem dxs_cons (h1 : DX X W st m) (h2 : DXs X W rest n) : DXs X W (st :: rest) (mSeqX m n) := ⟨_, pss_cons h1.ps h2.ps, fun hid O B H σ E o Dn r hm k => by
  obtain ⟨o1, e1, hm⟩ := bind_some hm
  refine h1.si hid O B H σ E o1 _ r e1 ?_
  cases o1 with
  | ex x E1 => cases hm; exact k
  | o o1 => cases o1 with
    | nx E1 => exact fun O' σ' H' r' => h2.si hid O' B H' σ' E1 o Dn r' hm k
    | rt d => cases hm; exact k
    | bk E1 => cases hm; exact k
    | rf E1 => cases hm; exact k
    | tf d1 E1 => cases hm; exact k
    | ct E1 => cases hm; exact k⟩
theorem dxs_one (h1 : DX X W st m) : DXs X W [st] m := ⟨_, pss_one h1.ps, h1.si⟩
theorem dx_if {c : Expr} {a b : List Stmt} {mc : En → Option Bool} (hc : DB X c mc) (ha : DXs X W a m) (hb : DXs X W b n) : DX X W (.If c a b pos) (mIfX mc m n) := ⟨_, ps_if hc.pt ha.ps hb.ps, fun hid O B H σ E o Dn r hm k => by
  obtain ⟨x, h1, hm⟩ := bind_some hm
  refine hc.si hid O B H σ E x r h1 _ fun H1 e1 => ?_
  cases x with
  | true =>
    rw [if_pos rfl] at hm ⊢
    exact ha.si hid O B H1 σ E o Dn (r.grow e1) hm k
  | false =>
    rw [if_neg Bool.false_ne_true] at hm ⊢
    exact hb.si hid O B H1 σ E o Dn (r.grow e1) hm k⟩
theorem ssx_for {K : PySem.W.Frag} {wi : TI} {g : TG} {tb : TS} {js : List Nat} {mi : En → Option (List D)} {mg : En → D → Option En} {mb : En → Option OutX} (hi : SI K wi mi) (hg : SG K g js mg) (hb : SSX K W tb mb) : SSX K W (tFor wi g tb) (mForX mi mg mb) := fun hid O B H σ E o Dn r hm k => by
  obtain ⟨ds, h1, hm⟩ := bind_some hm
  refine hi hid O B H σ E ds r h1 _ fun J H2 G Y e2 w hG hY => ?_
  have r2 := r.grow e2
  have rb := r2.rebase
  have back : ∀ {O' H' σ' E'}, RE K hid O' (rem O H2) H' σ' E' → RE K hid O' B H' σ' E' := fun q => q.back r2.old r.hidd
  have vis : ∀ {O' H' σ' E'}, RE K hid O' (rem O H2) H' σ' E' → Ex (rem (orS hid O) H2) (rem (orS hid O') H') := fun q a u z => by
    obtain ⟨z1, z2⟩ := rem_some.mp z
    obtain ⟨z3, z4⟩ := q.base a u (rem_some.mpr ⟨fun y => z1 (.inr y), z2⟩)
    refine rem_some.mpr ⟨fun y => ?_, z3⟩
    rcases y with y | y
    · exact z1 (.inl y)
    · exact z4 y
  refine for_it w (fun i σ' H' => ∃ O' E', RE K hid O' (rem O H2) H' σ' E' ∧ runForX mg mb (ds.drop i) E' = some o) ⟨O, E, rb, hm⟩ (fun i σ' H' _ p => ?_) (fun i x σ' H3 H4 hi p y => ?_) (fun σ' H' p => ?_)
  · obtain ⟨O', E', q, _⟩ := p
    exact hG H' (Ex.trans (vis q) rem_ex)
  · obtain ⟨O', E', q, hr⟩ := p
    rw [List.drop_eq_getElem_cons hi] at hr
    obtain ⟨E1, k1, hr⟩ := bind_some hr
    obtain ⟨o1, k2, hr⟩ := bind_some hr
    obtain ⟨e4, rx⟩ := hY i H3 x H4 (orS hid O') ds[i] y (List.getElem?_eq_getElem hi) (vis q) fun p hp => q.fresh hp
    refine hg hid O' (rem O H2) H4 σ' E' x ds[i] E1 (q.grow e4) rx k1 _ fun σ2 r3 _ => ?_
    refine hb hid O' (rem O H2) H4 σ2 E1 o1 _ r3 k2 ?_
    cases o1 with
    | ex y E2 => cases hr; exact fun O5 σ5 H5 r5 => k O5 σ5 H5 (back r5)
    | o o1 => cases o1 with
      | nx E2 => exact fun O5 σ5 H5 r5 => ⟨O5, E2, r5, hr⟩
      | ct E2 => exact fun O5 σ5 H5 r5 => ⟨O5, E2, r5, hr⟩
      | bk E2 => cases hr; exact fun O5 σ5 H5 r5 => k O5 σ5 H5 (back r5)
      | rt d => cases hr; exact fun v H5 e5 r5 => k v H5 (Ex.trans (Ex.trans r2.old (Ex.refl _)) e5) r5
      | rf d => cases hr; exact fun p xs H5 hp e5 hx r5 => k p xs H5 (Evl.fresh_back r2.old hp) (Ex.trans r2.old e5) hx r5
      | tf d0 d => cases hr; exact fun q v p xs H5 hp e5 hx r5 => k q v p xs H5 (Evl.fresh_back r2.old hp) (Ex.trans r2.old e5) hx r5
  · obtain ⟨O', E', q, hr⟩ := p
    rw [List.drop_length] at hr
    cases hr
    exact k O' σ' H' (back q)
theorem dx_for {tg iter : Expr} {body : List Stmt} {js : List Nat} {mi : En → Option (List D)} {mg : En → D → Option En} {mb : En → Option OutX} (hp : PassesOwn (model X.prog X.w) X.A X.env X.xe) (hc : X.calm = true) (hi : DI X tg iter mi) (hg : DG X tg js mg) (hb : DXs X W body mb)
    (hs : ∀ x, foldedSetIterable iter X.env x = pure x := by intro _; rfl) : DX X W (.For tg iter body [] pos) (mForX mi mg mb) := ⟨_, ps_for hp hc hi.pi hg.pg hb.ps hs, ssx_for hi.si hg.si hb.si⟩
/-- what is said of a class that is raised -/
structure ExF (K : PySem.W.Frag) (mg : Str → Option Value) (x : Str) : Prop where
  g : mg x = some (.ref (He.ga K x))
  q : PySem.W.excIn K (He.ga K x) He.veBase "ValueError.__new__" = true
  kp : PySem.W.keepIn K (.ref (He.ga K x)) = true
  b : PySem.W.subIn K (.ref (He.ga K x)) (.type "BaseException") = some true
  t : PySem.W.typeIn K (.ref (He.ga K x)) = some (.type "type")
@[simp] def mRaise (x : Str) : En → Option OutX := fun E => some (.ex x E)
theorem dx_raise {x z : Str} {j : Nat} {p p2 pos' : Pos} (F : ExF X.K X.mg x) (tk : L2N.Takes X W) (hc : X.calm = true := by rfl) (hg : Gl X x := by rfl) (hdb : (x == ("__debug__" : Str)) = false := by decide) :
    DX X W (.Raise (some (.Call (.Name x p) [.Constant (.str z) j p2] [] pos)) none pos') (mRaise x) :=
  ⟨_, L2N.ps_raise hc tk (L2N.pmk_own PySem.F.excBase_ValueError F.q F.g F.kp (raises_own F.b F.t) hg hdb), fun hid O B H σ E o Dn r hm k => by
    cases hm
    exact k O σ H r⟩
end
/-! ### expressions that may raise -/
def SEX (K : PySem.W.Frag) (W : WX) (te : TE) (m : En → Option RX) : Prop := ∀ (hid O : AS) (B H : Hp) (σ : L2.St) (E : En) (r : RX), RE K hid O B H σ E → m E = some r → ∀ Q : VK,
  (∀ d, r = .ok d → ∀ v H', Ex H H' → Rp K (rem (orS hid O) H') v d → Q v H') → (∀ x, r = .ex x → ∀ H', Ex H H' → W (.ref (He.ga K x)) none σ H') → te σ H Q
def DEX (X : Cx) (W : WX) (e : Expr) (m : En → Option RX) : Prop := ∃ te, PE X e te ∧ SEX X.K W te m
@[simp] def okX : RX → Option D
  | .ok d => some d
  | .ex _ => none
section
variable {X : Cx} {W : WX} {pos pos' : Pos} {e : Expr} {m : En → Option RX}
/-- where nothing is raised -/
theorem DEX.toE (h : DEX X (fun _ _ _ _ => False) e m) : DE X e (fun E => (m E).bind okX) := by
  obtain ⟨te, h1, h2⟩ := h
  refine ⟨te, h1, fun hid O B H σ E d re hm Q q => ?_⟩
  obtain ⟨r, k1, k2⟩ := bind_some hm
  refine h2 hid O B H σ E r re k1 Q (fun d' e' => ?_) (fun x e' => ?_)
  · subst e'
    cases k2
    exact q
  · subst e'
    cases k2
@[simp] def mDropX (m : En → Option RX) : En → Option OutX := fun E => (m E).map fun r => match r with
  | .ok _ => .o (.nx E)
  | .ex x => .ex x E
theorem dx_expr (he : DEX X W e m) (hs : swapsWith e none pos.line X.env = pure false := by rfl) : DX X W (.Expr e pos) (mDropX m) := by
  obtain ⟨te, h1, h2⟩ := he
  refine ⟨_, ps_expr h1 hs, fun hid O B H σ E o Dn re hm k => ?_⟩
  obtain ⟨r, k1, rfl⟩ := map_some hm
  refine h2 hid O B H σ E r re k1 _ (fun d e' v H' ex rv => ?_) (fun x e' H' ex => ?_)
  · subst e'
    exact k O σ H' (re.grow ex)
  · subst e'
    exact k O σ H' (re.grow ex)
@[simp] def mSetX (i : Nat) (m : En → Option RX) : En → Option OutX := fun E => (m E).map fun r => match r with
  | .ok d => .o (.nx (E.set i (.fz d)))
  | .ex x => .ex x E
theorem dx_set (i : Nat) {x : Str} (hN : X.N.Nodup) (he : DEX X W e m) (hi : X.N[i]? = some x := by rfl) (hx : Loc X.env.scope x := by first | exact Or.inl rfl | exact Or.inr rfl) (hs : swapsWith e (some (.Name x pos')) pos.line X.env = pure false := by rfl)
    (hf : X.fn x = true ∨ X.env.scope.names.lookup x = some .local := by first | exact .inl rfl | exact .inr rfl) : DX X W (.Assign [.Name x pos'] e pos) (mSetX i m) := by
  obtain ⟨te, h1, h2⟩ := he
  refine ⟨_, ps_set hN hi hx h1 hs hf, fun hid O B H σ E o Dn re hm k => ?_⟩
  obtain ⟨r, k1, rfl⟩ := map_some hm
  refine h2 hid O B H σ E r re k1 _ (fun d e' v H' ex rv => ?_) (fun x e' H' ex => ?_)
  · subst e'
    exact k O _ H' ((re.grow ex).put i rv)
  · subst e'
    exact k O σ H' (re.grow ex)
@[simp] def mRetX (m : En → Option RX) : En → Option OutX := fun E => (m E).map fun r => match r with
  | .ok d => .o (.rt d)
  | .ex x => .ex x E
end
/-! ### defs that may raise -/
def spX (K : PySem.W.Frag) (n : Nat) (m : List D → Option RX) : Sp := fun vs H Q E => ∃ (hid : AS) (ds : List D) (r : RX), (∀ a, hid a → IsM H a) ∧ RpL K (rem hid H) vs ds ∧ ds.length = n ∧ m ds = some r ∧
  (∀ d, r = .ok d → ∀ v H', Ex H H' → Rp K (rem hid H') v d → Q v H') ∧ ∀ x, r = .ex x → ∀ H', Ex H H' → E (.ref (He.ga K x)) none H'
structure CalX (P : Program) (w : World) (K : PySem.W.Frag) (mg : Str → Option Value) (base : Heap) (x : Str) (k n : Nat) (m : List D → Option RX) : Prop where
  ex : ∃ (f : Addr) (fd : FuncData) (ps : List Str), mg x = some (.ref f) ∧ FnOk P w K mg base (L2N.CX P w) k f fd ps (spX K n m) ∧ PySem.W.keepIn K (.ref f) = true ∧ Binds K fd ps []
def callX (n N : Nat) (body : En → Option OutX) : List D → Option RX := fun ds => match body (ds.map Sl.fz ++ List.replicate (N - ds.length) Sl.un) with
  | some (.o (.rt d)) => some (.ok d)
  | some (.o (.rf ds)) => some (.ok (.lst ds))
  | some (.o (.nx _)) => some (.ok .non)
  | some (.ex x _) => some (.ex x)
  | _ => none
abbrev wOf (E : XK) : WX := fun cls d _ H => E cls d H
section
variable {P : Program} {w : World} {K : PySem.W.Frag} {mg : Str → Option Value} {base : Heap}
theorem fnX_mk {x : Str} {st : Stmt} {N ps : List Str} {k n : Nat} {m : En → Option OutX} {f : Addr} {fd : FuncData} (F : FunD K x x (defArgs st) (defBody st) (defScope st) [] [] f fd) (S : FnScope N ps (defScope st)) (hn : ps.length = n)
    (hbody : ∀ (cdv : Value) (A : Around) (outer : List Env) (s : Shared) (H : Hp) (E : XK), Room k (A.deeper (envOfC x (defScope st) s.heap.objs.size f cdv)) →
      L2N.Takes (cxOf (L2N.CX P w) P w K mg base N x (defScope st) f cdv A outer s H E) (wOf E) →
      PassesOwn (model P w) (A.deeper (envOfC x (defScope st) s.heap.objs.size f cdv)) (envOfC x (defScope st) s.heap.objs.size f cdv) (cxOf (L2N.CX P w) P w K mg base N x (defScope st) f cdv A outer s H E).xe →
      DXs (cxOf (L2N.CX P w) P w K mg base N x (defScope st) f cdv A outer s H E) (wOf E) (defBody st) m) : FnOk P w K mg base (L2N.CX P w) (k + 1) f fd ps (spX K n (callX n N.length m)) := by
  refine F.ok S (fun vs H Q E h => ?_) (fun cdv A outer s H vs Q E hr h => ?_)
  · obtain ⟨hid, ds, d, _, h1, h2, _⟩ := h
    rw [h1.length, h2, hn]
  · obtain ⟨hid, ds, r, h0, h1, h2, h3, q, qx⟩ := h
    have T := hbody cdv A outer s H E hr (L2N.takes_of rfl rfl rfl rfl) (passes_of (X := cxOf (L2N.CX P w) P w K mg base N x (defScope st) f cdv A outer s H E) rfl)
    refine ⟨_, T.ps, ?_⟩
    have r0 : RE K hid noS H H (start N vs) (ds.map Sl.fz ++ List.replicate (N.length - ds.length) Sl.un) := RE.start h0 h1
    unfold callX at h3
    split at h3
    · rename_i d' e
      cases h3
      exact T.si hid noS H H _ _ (.o (.rt d')) _ r0 e fun v H' ex rv => q _ rfl v H' ex rv
    · rename_i es e
      cases h3
      exact T.si hid noS H H _ _ (.o (.rf es)) _ r0 e fun p xs H' hp ex hx rv => q _ rfl _ H' ex (.lst (rem_some.mpr ⟨fun z => (by
        obtain ⟨o, z, _⟩ := h0 p z
        rw [hp] at z
        cases z), hx⟩) (rv.mono (rem_sub fun a z => .inl z) es))
    · rename_i E' e
      cases h3
      exact T.si hid noS H H _ _ (.o (.nx E')) _ r0 e fun O' σ' H' r' => q _ rfl .non H' r'.ex .non
    · rename_i y E' e
      cases h3
      exact T.si hid noS H H _ _ (.ex y E') _ r0 e fun O' σ' H' r' => qx _ rfl H' r'.ex
    · cases h3
theorem calX_of {x : Str} {st : Stmt} {ps : List Str} {k n : Nat} {m : List D → Option RX} (F : Stands K mg x st)
    (hb : ∀ (kV doc pm : Value) (an : Option Addr) (cdv ct : Value) (us : List Value), us.length = ps.length → bindArgs (PySem.W.fnOf x x (defArgs st) (defBody st) (defScope st) .none kV doc pm an cdv ct) ⟨us, []⟩ = pure (ps.zip us))
    (h : ∀ {f : Addr} {fd : FuncData}, FunD K x x (defArgs st) (defBody st) (defScope st) [] [] f fd → FnOk P w K mg base (L2N.CX P w) k f fd ps (spX K n m)) : CalX P w K mg base x k n m := by
  obtain ⟨f, fd, g, F⟩ := F.ex
  exact ⟨f, fd, ps, g, h F, F.kp, fun_binds F hb⟩
end
@[simp] def mCallX (n : Nat) (m : List D → Option RX) (a : En → Option (List D)) : En → Option RX := fun E => (a E).bind fun ds => if ds.length = n then m ds else none
section
variable {X : Cx} {W : WX} {x : Str} {k n : Nat} {m : List D → Option RX} {e : Expr} {es : List Expr} {ma : En → Option (List D)} {p pos : Pos} {P : Program} {w : World} {K : PySem.W.Frag} {mg : Str → Option Value} {base : Heap} {A : Around}
theorem dex_call (G : CalX P w K mg base x k n m) (tk : L2N.Takes X W) (hr : Room k A) (ha : DA X (e :: es) ma) (hA : X.A = A := by rfl) (hP : X.prog = P := by rfl) (hw : X.w = w := by rfl) (hK : X.K = K := by rfl) (hmg : X.mg = mg := by rfl) (hba : X.base = base := by rfl) (hg : Gl X x := by rfl) (hdb : (x == ("__debug__" : Str)) = false := by decide) (he : starEach (e :: es) X.env = (false, eval e X.env) :: starEach es X.env := by rfl) (hpl : (backTo pos (starEach es X.env)).any (·.1) = false := by rfl) :
    DEX X W (.Call (.Name x p) (e :: es) [] pos) (mCallX n m ma) := by
  subst hA hP hw hK hmg hba
  obtain ⟨f, fd, ps, g1, g2, g3, g4⟩ := G.ex
  refine ⟨_, pe_callS g2 hr hg g1 g3 g4 (fun σ => L2N.passAt tk σ) ha.pa hdb he hpl, fun hid O B H σ E r re hm Q q qx => ?_⟩
  obtain ⟨ds, h1, hm⟩ := bind_some hm
  obtain ⟨hl, h2⟩ := ite_someL hm
  refine ha.si hid O B H σ E ds re h1 _ fun vs H1 e1 r1 => ?_
  have re1 := re.grow e1
  refine ⟨orS hid O, ds, r, fun a z => ?_, r1, hl, h2, fun d e' v H2 e2 r2 => q d e' v H2 (e1.trans e2) r2, fun y e' H2 e2 => qx y e' H2 (e1.trans e2)⟩
  rcases z with z | z
  · exact (re1.hidd a z).mono re1.ex
  · exact (re1.own a z).2
end
theorem takesN0 {X : Cx} : L2N.Takes X (fun _ _ _ _ => False) := fun _ _ x => by
  obtain ⟨_, _, _, _, _, _, _, _, _, _, _, _, _, _, _, _, z⟩ := x
  exact z.elim
end Sx

set_option Elab.async false
set_option linter.all false
set_option maxRecDepth 100000
set_option maxHeartbeats 1000000
namespace Sx
open PySem PySem.Spec PyProof.Rows L2
open Evl (Ex)

/-! ### try .. except C as e -/
section
variable {K : PySem.W.Frag} {hid O : AS} {B H : Hp} {σ : L2.St} {E : En}
/-- a slot holds a caught exception -/
theorem RE.putErr (r : RE K hid O B H σ E) (j : Nat) (a : Addr) (x : Str) : RE K hid O B H (σ.set j (some (.ref a))) (E.set j (.fz (.err a x))) := r.put j (.err a x)
end
@[simp] def wipeO (i : Nat) : Out → Out
  | .nx E => .nx (E.set i .un)
  | .bk E => .bk (E.set i .un)
  | .ct E => .ct (E.set i .un)
  | o => o
open Classical in
/-- what a suite does, whatever the exception's address is -/
noncomputable def tryRes (i : Nat) (f : Addr → Option Out) : Option Out := if h : ∃ o, ∀ a, (f a).map (wipeO i) = some o then some h.choose else none
theorem tryRes_eq {i : Nat} {f : Addr → Option Out} {o : Out} (h : ∀ a, (f a).map (wipeO i) = some o) : tryRes i f = some o := by
  have h' : ∃ o, ∀ a, (f a).map (wipeO i) = some o := ⟨o, h⟩
  unfold tryRes
  rw [dif_pos h']
  have := h'.choose_spec 0
  rw [h 0] at this
  exact this.symm
theorem tryRes_at {i : Nat} {f : Addr → Option Out} {o : Out} (h : tryRes i f = some o) (a : Addr) : (f a).map (wipeO i) = some o := by
  unfold tryRes at h
  by_cases h' : ∃ o, ∀ a, (f a).map (wipeO i) = some o
  · rw [dif_pos h'] at h
    cases h
    exact h'.choose_spec a
  · rw [dif_neg h'] at h
    cases h
noncomputable def mTry (i : Nat) (kt : Str → Option Bool) (mb : En → Option OutX) (ms : Str → Addr → En → Option Out) : En → Option OutX := fun E => (mb E).bind fun o => match o with
  | .o o => some (.o o)
  | .ex x E1 => (kt x).bind fun b => if b = true then (tryRes i fun a => ms x a (E1.set i (.fz (.err a x)))).map .o else some (.ex x E1)
theorem end_wipe {K : PySem.W.Frag} {hid : AS} {B : Hp} {Dn : Ends} {i : Nat} {o : Out} (h : End K hid B Dn (wipeO i o)) : End K hid B { nx := fun σ' H' => Dn.nx (σ'.set i none) H', rt := Dn.rt, bk := fun σ' H' => Dn.bk (σ'.set i none) H', ct := fun σ' H' => Dn.ct (σ'.set i none) H' } o := by
  cases o with
  | nx E => exact fun O σ H r => h O _ H (r.drop i)
  | bk E => exact fun O σ H r => h O _ H (r.drop i)
  | ct E => exact fun O σ H r => h O _ H (r.drop i)
  | rt d => exact h
  | rf d => exact h
  | tf d e => exact h
section
variable {X : Cx} {W : WX} {x n : Str} {c : Str} {i : Nat} {body suite : List Stmt} {b₀ : Stmt} {np pos pos' : Pos} {mb : En → Option OutX} {ms : Str → Addr → En → Option Out} {kt : Str → Option Bool}
theorem dx_try (i : Nat) (hs : X.stack = X.env :: X.outer) (hf : X.env.frame = some X.env.locals) (hN : X.N.Nodup) (tk : L2N.Takes X W) (hm : X.mg x = some (.ref (He.ga X.K x)))
    (hk : ∀ y b, kt y = some b → PySem.W.exmOne X.K (.ref (He.ga X.K y)) (.ref (He.ga X.K x)) = some b)
    (hb : ∀ (W' : WX) (pn : List (Addr × Obj)) (xe : Value → Shared → Prop), L2N.Takes (X.tr pn xe) W' → PassesOwn (model X.prog X.w) X.A X.env xe → DXs (X.tr pn xe) W' body mb)
    (hh : ∀ (a : Addr) (oe : Obj) (y : Str) (pn : List (Addr × Obj)), Zc (.ref (He.ga X.K y)) none oe → (∃ vs, oe.data = .fields vs) → DSs (X.suite a ((a, oe) :: pn)) (b₀ :: suite) (ms y a))
    (hi : X.N[i]? = some n := by rfl) (hln : X.env.kindOf n = some .local := by rfl) (hg : Gl X x := by rfl) (hdb : (x == ("__debug__" : Str)) = false := by decide) :
    DX X W (.Try body [.ExceptHandler (some (.Name x np)) (some n) (b₀ :: suite) pos'] [] [] pos) (mTry i kt mb ms) := by
  refine ⟨_, L2N.ps_try_as (tb := fun W' => tXq X.K W' mb) (ts := fun a cls d Dn σ H => ∃ y, cls = .ref (He.ga X.K y) ∧ d = none ∧ tSq X.K (ms y a) Dn σ H) (i := i) hs hf hN hi hln ⟨hg, hdb, .inl hm⟩ tk (fun W' pn xe t p => (hb W' pn xe t p).ps) (fun a oe cls d pn hz hd => ⟨fun pins s σ H D I h => ?_⟩), fun hid O B H σ E o Dn re hm' k => ?_⟩
  · obtain ⟨y, rfl, rfl, h⟩ := h
    exact (hh a oe y pn hz.zc hd).ps.run pins s σ H D I h
  · obtain ⟨o1, k1, hm'⟩ := bind_some hm'
    refine ⟨hid, O, B, E, o1, re, k1, ?_⟩
    cases o1 with
    | o o1 =>
      cases hm'
      exact k
    | ex y E1 =>
      obtain ⟨b, k2, hm'⟩ := bind_some hm'
      refine fun O1 σ1 H1 r1 => ⟨b, hk y b k2, fun e => ?_, fun e => ?_⟩
      · rw [if_pos e] at hm'
        obtain ⟨o2, k3, rfl⟩ := map_some hm'
        intro a _
        obtain ⟨o3, k4, rfl⟩ := map_some (tryRes_at k3 a)
        exact ⟨y, rfl, rfl, hid, O1, B, _, o3, r1.putErr i a y, k4, end_wipe k⟩
      · rw [e, if_neg Bool.false_ne_true] at hm'
        cases hm'
        exact k O1 σ1 H1 r1
/-- .. where nothing is let out -/
@[simp] def outX : OutX → Option Out
  | .o o => some o
  | .ex _ _ => none
theorem DX.toS {st : Stmt} {m : En → Option OutX} (h : DX X (fun _ _ _ _ => False) st m) : DS X st (fun E => (m E).bind outX) := by
  obtain ⟨t, h1, h2⟩ := h
  refine ⟨t, h1, fun hid O B H σ E o Dn re hm k => ?_⟩
  obtain ⟨o1, k1, k2⟩ := bind_some hm
  cases o1 with
  | o o1 => cases k2; exact h2 hid O B H σ E _ Dn re k1 k
  | ex y E1 => cases k2
end
/-! ### isinstance of what was caught -/
section
variable {X : Cx} {i : Nat} {x n : Str} {a : Addr} {oe : Obj} {pn : List (Addr × Obj)} {y : Str} {p p2 p3 pos : Pos}
@[simp] def mIsE (i : Nat) (a : Addr) (kb : Option Bool) : En → Option D := fun E => match E[i]? with
  | some (.fz (.err a' _)) => if a' = a then kb.map .bl else none
  | _ => none
/-- the class by its name -/
theorem de_isE (i : Nat) {kb : Option Bool} (hm : X.mg "isinstance" = none) (hc : X.mg x = some (.ref (He.ga X.K x))) (hz : Zc (.ref (He.ga X.K y)) none oe) (hf : ∃ vs, oe.data = .fields vs)
    (h : ∀ b, kb = some b → ExcC X.K (He.ga X.K y) ∧ PySem.W.kitOne X.K (.ref (He.ga X.K y)) (.ref (He.ga X.K x)) = some b)
    (hN : X.N[i]? = some n := by rfl) (hv : Vis X.env.scope n := by first | exact Or.inl rfl | exact Or.inr (Or.inl rfl) | exact Or.inr (Or.inr rfl)) (hd : (n == ("__debug__" : Str)) = false := by decide) (hcd : (n == ("__classdict__" : Str)) = false := by decide)
    (hg : Gl X "isinstance" := by rfl) (hg2 : Gl X x := by rfl) (hxd : (x == ("__debug__" : Str)) = false := by decide) (hs : starEach [.Name n p3, .Name x p2] X.env = (false, eval (.Name n p3) X.env) :: starEach [.Name x p2] X.env := by rfl) (hs2 : starEach [.Name x p2] X.env = (false, eval (.Name x p2) X.env) :: starEach [] X.env := by rfl) (hpl : (backTo pos (starEach [.Name x p2] X.env)).any (·.1) = false := by rfl) :
    DE (X.suite a ((a, oe) :: pn)) (.Call (.Name "isinstance" p) [.Name n p3, .Name x p2] [] pos) (mIsE i a kb) := by
  cases kb with
  | none => exact ⟨fun _ _ _ => False, ⟨fun pins s σ H Q I q => q.elim⟩, fun hid O B H σ E d re hm' => by
      exfalso
      unfold mIsE at hm'
      split at hm'
      · rw [Option.map_none, ite_self] at hm'
        cases hm'
      · cases hm'⟩
  | some b =>
    obtain ⟨C, kk⟩ := h b rfl
    refine ⟨_, pe_callB (X := X.suite a ((a, oe) :: pn)) (call_isE C hz hf) hg hm (by decide +kernel) (pa_cons (pe_var (X := X.suite a ((a, oe) :: pn)) (i := i) hN hv hd hcd) (pa_cons (pe_glob (X := X.suite a ((a, oe) :: pn)) (v := .ref (He.ga X.K x)) hg2 hc rfl hxd) pa_nil hs2) hs) (by decide) (by decide) hs hpl, fun hid O B H σ E d re hm' Q q => ?_⟩
    unfold mIsE at hm'
    split at hm'
    · rename_i a' y' e
      by_cases ea : a' = a
      · subst ea
        rw [if_pos rfl] at hm'
        cases hm'
        obtain ⟨v, g1, g2⟩ := re.fz i _ e
        cases g2
        exact ⟨_, g1, .ref (He.ga X.K x), .ref (He.ga X.K x), b, rfl, fun u z => z, kk, q _ H (Ex.refl H) (.bl b)⟩
      · rw [if_neg ea] at hm'
        cases hm'
    · cases hm'
/-- .. of a builtin class -/
theorem de_isEb (i : Nat) {T : String} {kb : Option Bool} (hm : X.mg "isinstance" = none) (hc : X.mg x = none) (hv0 : bootBuiltins x = some (.type T)) (hz : Zc (.ref (He.ga X.K y)) none oe) (hf : ∃ vs, oe.data = .fields vs)
    (h : ∀ b, kb = some b → ExcC X.K (He.ga X.K y) ∧ PySem.W.kitOne X.K (.ref (He.ga X.K y)) (.type T) = some b)
    (hN : X.N[i]? = some n := by rfl) (hv : Vis X.env.scope n := by first | exact Or.inl rfl | exact Or.inr (Or.inl rfl) | exact Or.inr (Or.inr rfl)) (hd : (n == ("__debug__" : Str)) = false := by decide) (hcd : (n == ("__classdict__" : Str)) = false := by decide)
    (hg : Gl X "isinstance" := by rfl) (hg2 : Gl X x := by rfl) (hn : x ≠ "__name__" := by decide) (hxd : (x == ("__debug__" : Str)) = false := by decide) (hs : starEach [.Name n p3, .Name x p2] X.env = (false, eval (.Name n p3) X.env) :: starEach [.Name x p2] X.env := by rfl) (hs2 : starEach [.Name x p2] X.env = (false, eval (.Name x p2) X.env) :: starEach [] X.env := by rfl) (hpl : (backTo pos (starEach [.Name x p2] X.env)).any (·.1) = false := by rfl) :
    DE (X.suite a ((a, oe) :: pn)) (.Call (.Name "isinstance" p) [.Name n p3, .Name x p2] [] pos) (mIsE i a kb) := by
  cases kb with
  | none => exact ⟨fun _ _ _ => False, ⟨fun pins s σ H Q I q => q.elim⟩, fun hid O B H σ E d re hm' => by
      exfalso
      unfold mIsE at hm'
      split at hm'
      · rw [Option.map_none, ite_self] at hm'
        cases hm'
      · cases hm'⟩
  | some b =>
    obtain ⟨C, kk⟩ := h b rfl
    refine ⟨_, pe_callB (X := X.suite a ((a, oe) :: pn)) (call_isE C hz hf) hg hm (by decide +kernel) (pa_cons (pe_var (X := X.suite a ((a, oe) :: pn)) (i := i) hN hv hd hcd) (pa_cons (pe_bltn (X := X.suite a ((a, oe) :: pn)) (v := .ty T) hg2 hc hv0 rfl hn hxd) pa_nil hs2) hs) (by decide) (by decide) hs hpl, fun hid O B H σ E d re hm' Q q => ?_⟩
    unfold mIsE at hm'
    split at hm'
    · rename_i a' y' e
      by_cases ea : a' = a
      · subst ea
        rw [if_pos rfl] at hm'
        cases hm'
        obtain ⟨v, g1, g2⟩ := re.fz i _ e
        cases g2
        exact ⟨_, g1, .ty T, .type T, b, rfl, fun u z => z, kk, q _ H (Ex.refl H) (.bl b)⟩
      · rw [if_neg ea] at hm'
        cases hm'
    · cases hm'
end
/-- equal or not, wherever -/
theorem op_eqU {X : Cx} (hu : X.A.units + 64 < cLine) : OpR X (compareOp .Eq) (rEqAll X.K) := OpR.or op_eq (op_eqD hu)
theorem op_neU {X : Cx} (hu : X.A.units + 64 < cLine) : OpR X (compareOp .NotEq) (rNeAll X.K) := OpR.or op_ne (op_neD hu)
end Sx

set_option Elab.async false
set_option linter.all false
set_option maxRecDepth 100000
set_option maxHeartbeats 1000000
namespace Sx
open PySem PySem.Spec PyProof.Rows L2
open Evl (Ex)

/-! ### instances whose __init__ may raise -/
section
variable {X : Cx} {CX : CXT} {k n : Nat} {f C : Addr} {fd : FuncData} {ps ks : List Str} {sp : Sp} {EW : L2.St → XK} {x : Str} {p pos : Pos} {e : Expr} {es : List Expr} {kws : List Keyword} {t tk : TA} {g : List Value → List Value → List Value} {gV : List V → List V → List V} {ds : List Value} {dvs : List V}
def tMkS (C : Addr) (sp : Sp) (dvs : List V) (EW : L2.St → XK) (t : TA) : TE := fun σ H Q => t σ H fun vs H1 => ∀ a dx, H1 a = none → H1 dx = none → dx ≠ a → sp (.ref a :: (vs ++ dvs)) (upd (upd H1 dx (.own a)) a (.ins C dx [])) (fun v H2 => v = .non ∧ Q (.ref a) H2) (EW σ)
def tMkKS (C : Addr) (n m : Nat) (sp : Sp) (gV : List V → List V → List V) (EW : L2.St → XK) (t tk : TA) : TE := fun σ H Q => t σ H fun vs H1 => tk σ H1 fun zs H2 => vs.length = n ∧ zs.length = m ∧
  ∀ a dx, H2 a = none → H2 dx = none → dx ≠ a → sp (gV (.ref a :: vs) zs) (upd (upd H2 dx (.own a)) a (.ins C dx [])) (fun v H3 => v = .non ∧ Q (.ref a) H3) (EW σ)
theorem mk_run {pins : List (Addr × Obj)} {σ : L2.St} {H : Hp} {s : Shared} {Q : VK} {us : List Value} {vs : List V} {kv : List (Str × Value)} {bs : List Value} (M : Mk X.K C f) (F : FnOk X.prog X.w X.K X.mg X.base CX k f fd ps sp) (hr : Room (k + 1) X.A) (hx : PassesAt CX X σ (EW σ)) (I : Inv X pins σ H s)
    (hb : ∀ s', X.K.In s'.heap → BindsTo s' fd ⟨Value.ref (s.heap.objs.size + 1) :: us, kv⟩ (ps.zip bs)) (rb : Vals vs bs)
    (h : sp vs (upd (upd H s.heap.objs.size (.own (s.heap.objs.size + 1))) (s.heap.objs.size + 1) (.ins C s.heap.objs.size [])) (fun v H2 => v = .non ∧ Q (.ref (s.heap.objs.size + 1)) H2) (EW σ)) :
    wpAny (model X.prog X.w) X.A (call (.ref C) us kv) (EP X pins σ Q) X.xe s := by
  have I2 := Inv.made (C := C) I
  refine wpAny_call (make_map (f := f) I.kIn M.makes M.init (beq_iff_eq.mp M.fn) (codeAny_mono (F.run _ X.stack _ _ ⟨Value.ref (s.heap.objs.size + 1) :: us, kv⟩ bs _ _ (EW σ) (hr.make C us kv)
    (I2.env0.make C us kv) (hb _ I2.kIn) rb h) fun res s' hq => ?_))
  cases res with
  | error u => exact hx pins _ _ u s' I2 hq
  | ok fl =>
    cases fl with
    | ret u =>
      obtain ⟨v, H', I3, rv, ev, q3⟩ := I2.after hq
      subst ev
      exact ⟨rv, ⟨V.ref (s.heap.objs.size + 1), H', I3, rfl, q3⟩⟩
    | next => exact False.elim hq
    | brk => exact False.elim hq
    | cont => exact False.elim hq
theorem pe_mkS (M : Mk X.K C f) (F : FnOk X.prog X.w X.K X.mg X.base CX k f fd ps sp) (hr : Room (k + 1) X.A) (hg : Gl X x) (hm : X.mg x = some (.ref C)) (hb : Binds X.K fd ps ds) (hd : Vals dvs ds) (hx : ∀ σ, PassesAt CX X σ (EW σ))
    (ha : PA X (e :: es) t) (hdb : (x == ("__debug__" : Str)) = false := by decide) (he : starEach (e :: es) X.env = (false, eval e X.env) :: starEach es X.env := by rfl) (hpl : (backTo pos (starEach es X.env)).any (·.1) = false := by rfl) :
    PE X (.Call (.Name x p) (e :: es) [] pos) (tMkS C sp dvs EW t) := by
  refine ⟨fun pins s σ H Q I h => wpAny_Call_Name_kw (ld_glob I hg hm ?_ hdb)⟩
  refine PySem.W.callWith_K (h₀ := X.base) I.ok.mod.kin M.kp (thn (ha.run pos pins s σ H _ I h) fun us s1 ⟨vs, H1, I1, r, q⟩ => ⟨I1.kIn, ?_⟩) he hpl
  have hq := q (s1.heap.objs.size + 1) s1.heap.objs.size (I1.hok.fresh (Nat.le_succ _)) (I1.hok.fresh (Nat.le_refl _)) (Nat.ne_of_lt (Nat.lt_succ_self _))
  have rb : Vals (V.ref (s1.heap.objs.size + 1) :: (vs ++ dvs)) ((Value.ref (s1.heap.objs.size + 1) :: us) ++ ds) := .cons rfl (r.append hd)
  have hl : ((Value.ref (s1.heap.objs.size + 1) :: us) ++ ds).length = ps.length := by
    rw [← rb.length]
    exact F.len _ _ _ _ hq
  exact mk_run (kv := []) (bs := (Value.ref (s1.heap.objs.size + 1) :: us) ++ ds) M F hr (hx σ) I1 (fun s' X' => hb s' _ X' hl) rb hq
theorem pe_mkKS (M : Mk X.K C f) (F : FnOk X.prog X.w X.K X.mg X.base CX k f fd ps sp) (hr : Room (k + 1) X.A) (hg : Gl X x) (hm : X.mg x = some (.ref C)) (hb : KBn X.K fd ps (n + 1) ks g gV) (hx : ∀ σ, PassesAt CX X σ (EW σ)) (ha : PA X (e :: es) t) (hkw : PK X kws tk)
    (hall : (backToKw pos (keywordEach kws X.env)).all (·.1.isSome) = true := by rfl) (hks : (backToKw pos (keywordEach kws X.env)).filterMap (·.1) = ks := by rfl) (hdb : (x == ("__debug__" : Str)) = false := by decide)
    (he : starEach (e :: es) X.env = (false, eval e X.env) :: starEach es X.env := by rfl) (hpl : ((backTo pos (starEach (e :: es) X.env)).any (·.1) || (backToKw pos (keywordEach kws X.env)).any (·.1.isNone)) = false := by rfl) :
    PE X (.Call (.Name x p) (e :: es) kws pos) (tMkKS C n ks.length sp gV EW t tk) := by
  refine ⟨fun pins s σ H Q I h => wpAny_Call_Name_kw (ld_glob I hg hm ?_ hdb)⟩
  refine PySem.W.callWith_KW (h₀ := X.base) I.ok.mod.kin M.kp hall (thn (ha.run pos pins s σ H _ I h) fun us s1 ⟨vs, H1, I1, r, q⟩ => ?_) hpl he
  refine thn (hkw.run pos pins s1 σ H1 _ I1 q) fun ws s2 ⟨zs, H2, I2, rz, l1, l2, q2⟩ => ⟨I2.kIn, ?_⟩
  rw [hks]
  have hq := q2 (s2.heap.objs.size + 1) s2.heap.objs.size (I2.hok.fresh (Nat.le_succ _)) (I2.hok.fresh (Nat.le_refl _)) (Nat.ne_of_lt (Nat.lt_succ_self _))
  have r1 : Vals (V.ref (s2.heap.objs.size + 1) :: vs) (Value.ref (s2.heap.objs.size + 1) :: us) := .cons rfl r
  have n1 : (Value.ref (s2.heap.objs.size + 1) :: us).length = n + 1 := by
    rw [List.length_cons, ← r.length, l1]
  exact mk_run M F hr (hx σ) I2 (fun s' X' => hb.to s' _ ws X' n1 (rz.length.symm.trans l2)) (hb.rel r1 rz) hq
end
/-- nodes, let go -/
def frzNs : List Nat → En → En
  | [], E => E
  | n :: ns, E => frzNs ns (match E[n]? with
    | some (.nd x) => (match ndD x with
      | some d => subE n d E
      | none => E)
    | _ => E)
theorem RE.frzNs {K : PySem.W.Frag} {hid : AS} {B H : Hp} {σ : L2.St} : ∀ (ns : List Nat) {O : AS} {E : En}, RE K hid O B H σ E → ∃ O', RE K hid O' B H σ (frzNs ns E)
  | [], O, E, r => ⟨O, r⟩
  | n :: ns, O, E, r => by
    unfold Sx.frzNs
    split
    · rename_i x e
      split
      · rename_i d ed
        obtain ⟨O1, r1⟩ := r.frzN e ed
        exact RE.frzNs ns r1
      · exact RE.frzNs ns r
    · exact RE.frzNs ns r
def callIX (fzs : List Nat) (N n : Nat) (x : Str) (body : En → Option OutX) (a : Addr) : List D → Option RX := fun ds => match body ((Sl.rt (.rf n) :: (ds.map Sl.fz ++ List.replicate (N - 1 - ds.length) Sl.un)).set n (.nd (.obj (some a) x [] []))) with
  | some (.o (.nx E)) => (match (frzNs fzs E)[n]? with
    | some (.nd (.obj q y fs rs)) => if q = some a then (ndT (.obj q y fs rs)).map .ok else none
    | _ => none)
  | some (.ex y _) => some (.ex y)
  | _ => none
def spIX (K : PySem.W.Frag) (n : Nat) (x : Str) (m : List D → Option RX) : Sp := fun vs H Q E => ∃ (hid : AS) (H0 : Hp) (a dx : Addr) (us : List V) (ds : List D) (r : RX), vs = .ref a :: us ∧ H0 a = none ∧ H0 dx = none ∧ dx ≠ a ∧ H = upd (upd H0 dx (.own a)) a (.ins (He.ga K x) dx []) ∧
  (∀ a, hid a → IsM H0 a) ∧ RpL K (rem hid H0) us ds ∧ ds.length = n ∧ m ds = some r ∧ (∀ d, r = .ok d → ∀ H', Ex H0 H' → Rp K (rem hid H') (.ref a) d → Q .non H') ∧ ∀ y, r = .ex y → ∀ H', Ex H0 H' → E (.ref (He.ga K y)) none H'
structure StandsIK (K : PySem.W.Frag) (mg : Str → Option Value) (x q : Str) (st : Stmt) (kws : List (Str × V)) : Prop where
  ex : ∃ (f : Addr) (fd : FuncData), mg x = some (.ref (He.ga K x)) ∧ Mk K (He.ga K x) f ∧ FunD K "__init__" q (defArgs st) (defBody st) (defScope st) [] kws f fd
structure CalIX (P : Program) (w : World) (K : PySem.W.Frag) (mg : Str → Option Value) (base : Heap) (x : Str) (k n np : Nat) (ks : List Str) (dvs : List V) (m : List D → Option RX) : Prop where
  ex : ∃ (f : Addr) (fd : FuncData) (ps : List Str), mg x = some (.ref (He.ga K x)) ∧ Mk K (He.ga K x) f ∧ FnOk P w K mg base (L2N.CX P w) k f fd ps (spIX K n x m) ∧
    (∃ ds, Vals dvs ds ∧ Binds K fd ps ds) ∧ KBn K fd ps (np + 1) ks (fun us ws => us ++ ws) (fun vs zs => vs ++ zs)
section
variable {P : Program} {w : World} {K : PySem.W.Frag} {mg : Str → Option Value} {base : Heap}
theorem fnIX_mk {x q : Str} {st : Stmt} {kws : List (Str × V)} {N ps : List Str} {fzs : List Nat} {k n j : Nat} {m : En → Option OutX} {mi : List D → Option RX} {f : Addr} {fd : FuncData} (F : FunD K "__init__" q (defArgs st) (defBody st) (defScope st) [] kws f fd) (S : FnScope N ps (defScope st)) (hn : ps.length = n + 1) (hj0 : 0 < j) (hj : n < j) (hjN : j < N.length)
    (hm : ∀ a ds r, mi ds = some r → callIX fzs N.length j x m a ds = some r)
    (hbody : ∀ (cdv : Value) (A : Around) (outer : List Env) (s : Shared) (H : Hp) (E : XK), Room k (A.deeper (envOfC q (defScope st) s.heap.objs.size f cdv)) →
      L2N.Takes (cxOf (L2N.CX P w) P w K mg base N q (defScope st) f cdv A outer s H E) (wOf E) →
      PassesOwn (model P w) (A.deeper (envOfC q (defScope st) s.heap.objs.size f cdv)) (envOfC q (defScope st) s.heap.objs.size f cdv) (cxOf (L2N.CX P w) P w K mg base N q (defScope st) f cdv A outer s H E).xe →
      DXs (cxOf (L2N.CX P w) P w K mg base N q (defScope st) f cdv A outer s H E) (wOf E) (defBody st) m) : FnOk P w K mg base (L2N.CX P w) (k + 1) f fd ps (spIX K n x mi) := by
  refine F.ok S (fun vs H Q E h => ?_) (fun cdv A outer s H vs Q E hr h => ?_)
  · obtain ⟨hid, H0, a, dx, us, ds, d, rfl, _, _, _, _, _, h1, h2, _⟩ := h
    rw [List.length_cons, h1.length, h2, hn]
  · obtain ⟨hid, H0, a, dx, us, ds, d, rfl, a0, dx0, ne, rfl, h0, h1, h2, h3, k0, kx⟩ := h
    have T := hbody cdv A outer s (upd (upd H0 dx (.own a)) a (.ins (He.ga K x) dx [])) E hr (L2N.takes_of rfl rfl rfl rfl) (passes_of (X := cxOf (L2N.CX P w) P w K mg base N q (defScope st) f cdv A outer s (upd (upd H0 dx (.own a)) a (.ins (He.ga K x) dx [])) E) rfl)
    refine ⟨_, T.ps, ?_⟩
    have hB : Ex H0 (upd H0 dx (.own a)) := Ex.new dx0
    have ba : upd H0 dx (.own a) a = none := by rw [upd_ne (fun z => ne z.symm)]; exact a0
    have hH : Ex (upd H0 dx (.own a)) (upd (upd H0 dx (.own a)) a (.ins (He.ga K x) dx [])) := Ex.new ba
    have ee := hB.trans hH
    have nh : ¬ hid a := fun z => by
      obtain ⟨o, y, _⟩ := h0 a z
      rw [a0] at y
      cases y
    have vis : Ex (rem hid H0) (rem (orS hid (· = a)) (upd (upd H0 dx (.own a)) a (.ins (He.ga K x) dx []))) := fun b o z => by
      obtain ⟨z1, z2⟩ := rem_some.mp z
      refine rem_some.mpr ⟨fun y => ?_, ee b o z2⟩
      rcases y with y | y
      · exact z1 y
      · rw [y, a0] at z2
        cases z2
    have hlen : us.length = n := by rw [h1.length, h2]
    have sEq : start N (.ref a :: us) = some (.ref a) :: (us.map some ++ List.replicate (N.length - 1 - us.length) none) := by
      unfold L2.start
      rw [List.map_cons, List.length_cons, List.cons_append]
      congr 3
      omega
    have eAt : ∀ (i : Nat) (s : Sl), ((Sl.rt (.rf j) :: (ds.map Sl.fz ++ List.replicate (N.length - 1 - ds.length) Sl.un)).set j (.nd (.obj (some a) x [] [])))[i]? = some s → (i = j ∧ s = .nd (.obj (some a) x [] [])) ∨ (i = 0 ∧ s = .rt (.rf j)) ∨ (∃ t d, i = t + 1 ∧ ds[t]? = some d ∧ s = .fz d) ∨ s = .un := fun i s z => by
      rcases set_at z with ⟨y1, y2⟩ | ⟨y1, y2⟩
      · exact .inl ⟨y1.symm, y2.symm⟩
      · cases i with
        | zero =>
          simp at y2
          exact .inr (.inl ⟨rfl, y2.symm⟩)
        | succ t =>
          rw [List.getElem?_cons_succ] at y2
          rcases start_at y2 with ⟨_, d, y3, y4⟩ | y3
          · exact .inr (.inr (.inl ⟨t, d, rfl, y3, y4⟩))
          · exact .inr (.inr (.inr y3))
    have r0 : RE K hid (· = a) (upd H0 dx (.own a)) (upd (upd H0 dx (.own a)) a (.ins (He.ga K x) dx [])) (start N (.ref a :: us)) ((Sl.rt (.rf j) :: (ds.map Sl.fz ++ List.replicate (N.length - 1 - ds.length) Sl.un)).set j (.nd (.obj (some a) x [] []))) := by
      refine ⟨fun b o z => ⟨hH b o z, fun y => ?_⟩, fun b y => ?_, fun b z => (h0 b z).mono hB, ?_, fun i d z => ?_, fun i es z => ?_, fun i k' p es fs _ z => ?_, ⟨fun _ => a, fun _ => [], fun n' y z => ?_, fun n1 n2 y1 y2 dd z1 z2 => ?_, fun i r z => ?_, fun i n' es y p z => ?_⟩⟩
      · rw [y, ba] at z
        cases z
      · rw [y]
        exact ⟨nh, ⟨_, upd_same, trivial⟩⟩
      · rw [sEq, List.length_set, List.length_cons, List.length_cons, List.length_append, List.length_append, List.length_map, List.length_map, List.length_replicate, List.length_replicate, h1.length]
      · rcases eAt i _ z with ⟨_, y⟩ | ⟨_, y⟩ | ⟨t, d', rfl, y1, y2⟩ | y
        · cases y
        · cases y
        · cases y2
          obtain ⟨v, g1, g2⟩ := h1.get y1
          refine ⟨v, ?_, g2.mono vis _⟩
          have ht : t < us.length := (List.getElem?_eq_some_iff.mp g1).1
          rw [sEq, List.getElem?_cons_succ, List.getElem?_append_left (by rw [List.length_map]; exact ht), List.getElem?_map, g1]
          rfl
        · cases y
      · rcases eAt i _ z with ⟨_, y⟩ | ⟨_, y⟩ | ⟨t, d', rfl, y1, y2⟩ | y
        · cases y
        · cases y
        · cases y2
        · cases y
      · rcases eAt i _ z with ⟨_, y⟩ | ⟨_, y⟩ | ⟨t, d', rfl, y1, y2⟩ | y
        · cases y
        · cases y
        · cases y2
        · cases y
      · rcases eAt n' _ z with ⟨_, y'⟩ | ⟨_, y'⟩ | ⟨t, d', _, y1, y2⟩ | y'
        · cases y'
          exact ⟨fun b hb => List.mem_singleton.mp hb, dx, [], fun b hb => Option.some.inj hb, upd_same, rfl, .nil⟩
        · cases y'
        · cases y2
        · cases y'
      · rcases eAt n1 _ z1 with ⟨u1, y'⟩ | ⟨_, y'⟩ | ⟨t, d', _, _, y'⟩ | y' <;> first | (cases y'; done) | skip
        rcases eAt n2 _ z2 with ⟨u2, y''⟩ | ⟨_, y''⟩ | ⟨t, d', _, _, y''⟩ | y'' <;> first | (cases y''; done) | skip
        exact absurd (u1.trans u2.symm) dd
      · rcases eAt i _ z with ⟨_, y'⟩ | ⟨u, y'⟩ | ⟨t, d', _, _, y'⟩ | y' <;> first | (cases y'; done) | skip
        cases y'
        subst u
        exact ⟨.ref a, by rw [sEq]; rfl, .rf j⟩
      · rcases eAt i _ z with ⟨_, y'⟩ | ⟨_, y'⟩ | ⟨t, d', _, _, y'⟩ | y' <;> cases y'
    have hc := hm a ds d h3
    unfold callIX at hc
    split at hc
    · rename_i E' e
      split at hc
      · rename_i qa y fs rs en
        by_cases hq : qa = some a
        · rw [if_pos hq] at hc
          obtain ⟨d', hc', rfl⟩ := map_some hc
          refine T.si hid _ _ _ _ _ (.o (.nx E')) _ r0 e fun O1 σ' H' r1 => ?_
          obtain ⟨O', r'⟩ := RE.frzNs fzs r1
          obtain ⟨θ, ω, N'⟩ := r'.nod
          have ha : θ j = a := by
            obtain ⟨dx', xs, g0, _⟩ := (N'.nd j _ en).2
            exact g0 a hq
          have tv := N'.nodeT en hc'
          rw [ha] at tv
          exact k0 d' rfl H' (hB.trans r'.ex) (tv.show fun p z => (r'.own p z).1)
        · rw [if_neg hq] at hc
          cases hc
      · cases hc
    · rename_i y E' e
      cases hc
      exact T.si hid _ _ _ _ _ (.ex y E') _ r0 e fun O' σ' H' r' => kx y rfl H' (hB.trans r'.ex)
    · cases hc
theorem calIX_of {x q : Str} {st : Stmt} {ps : List Str} {kws : List (Str × V)} {k n np : Nat} {m : List D → Option RX} (F : StandsIK K mg x q st kws) (hne : kws ≠ []) (hl : np + 1 + kws.length = ps.length)
    (hz : ∀ (D : Addr) (doc pm : Value) (an : Option Addr) (cdv ct : Value) (us ks : List Value), us.length = np + 1 → ks.length = kws.length → KwChain D ((kws.map (·.1)).zip ks) (bindArgs (PySem.W.fnOf "__init__" q (defArgs st) (defBody st) (defScope st) .none (.ref D) doc pm an cdv ct) ⟨us, []⟩) (ps.zip (us ++ ks)))
    (hb : ∀ (D : Addr) (doc pm : Value) (an : Option Addr) (cdv ct : Value) (us ks : List Value), us.length = np + 1 → ks.length = (kws.map (·.1)).length → bindArgs (PySem.W.fnOf "__init__" q (defArgs st) (defBody st) (defScope st) .none (.ref D) doc pm an cdv ct) ⟨us, (kws.map (·.1)).zip ks⟩ = pure (ps.zip (us ++ ks)))
    (h : ∀ {f : Addr} {fd : FuncData}, FunD K "__init__" q (defArgs st) (defBody st) (defScope st) [] kws f fd → FnOk P w K mg base (L2N.CX P w) k f fd ps (spIX K n x m)) : CalIX P w K mg base x k n np (kws.map (·.1)) (kws.map (·.2)) m := by
  obtain ⟨f, fd, g, M, F⟩ := F.ex
  obtain ⟨mv, kb⟩ := F.kbinds0 (ps := ps) (np + 1) (kws.map (·.1)) [] (fun us _ ws => us ++ ws) hne (fun q hq => by cases hq) (fun r1 _ r3 => r1.append r3) (fun D doc pm an cdv ct us mv ws l1 l2 l3 => by
    cases mv with
    | nil => exact hb D doc pm an cdv ct us ws l1 l3
    | cons _ _ => cases l2)
  exact ⟨f, fd, ps, g, M, h F, F.binds0 (np + 1) hne hl hz, kb⟩
end
@[simp] def mCallXL (n : Nat) (m : List D → Option RX) (a : En → Option (List D)) : En → Option RX := fun E => (a E).bind fun ds => if ds.length = n then (m ds).bind fun r => match r with
  | .ok d => if nol d = true then some (.ok d) else none
  | .ex x => some (.ex x)
  else none
section
variable {X : Cx} {W : WX} {x : Str} {k n np : Nat} {ks : List Str} {dvs : List V} {m : List D → Option RX} {e : Expr} {es : List Expr} {kws : List Keyword} {ma mk : En → Option (List D)} {p pos : Pos} {P : Program} {w : World} {K : PySem.W.Frag} {mg : Str → Option Value} {base : Heap} {A : Around}
/-- C(..), the keyword-only ones by default -/
theorem dex_makeD (G : CalIX P w K mg base x k n np ks dvs m) (dds : List D) (hdd : ∀ H, RpL K H dvs dds) (tk : L2N.Takes X W) (hr : Room (k + 1) A) (ha : DAL X (e :: es) ma) (hA : X.A = A := by rfl) (hP : X.prog = P := by rfl) (hw : X.w = w := by rfl) (hK : X.K = K := by rfl) (hmg : X.mg = mg := by rfl) (hba : X.base = base := by rfl) (hg : Gl X x := by rfl) (hdb : (x == ("__debug__" : Str)) = false := by decide) (he : starEach (e :: es) X.env = (false, eval e X.env) :: starEach es X.env := by rfl) (hpl : (backTo pos (starEach es X.env)).any (·.1) = false := by rfl) :
    DEX X W (.Call (.Name x p) (e :: es) [] pos) (mCallXL n m (mApC ma dds)) := by
  subst hA hP hw hK hmg hba
  obtain ⟨f, fd, ps, g1, g2, g3, ⟨ws, g4, g5⟩, _⟩ := G.ex
  obtain ⟨ta, a1, a2⟩ := ha
  refine ⟨_, pe_mkS g2 g3 hr hg g1 g5 g4 (fun σ => L2N.passAt tk σ) a1 hdb he hpl, fun hid O B H σ E r re hm Q q qx => ?_⟩
  obtain ⟨ds, h1, hm⟩ := bind_some hm
  obtain ⟨hl, hm⟩ := ite_someL hm
  obtain ⟨r', h2, hm⟩ := bind_some hm
  obtain ⟨xs, h3, rfl⟩ := map_some h1
  refine a2 hid O B H σ E xs re h3 _ fun vs H1 e1 r1 => fun a dx ha hdx ne => ?_
  refine ⟨lsW hid O H1, H1, a, dx, vs ++ dvs, _, r', rfl, ha, hdx, ne, rfl, lsW_m (re.grow e1), r1.app (hdd _), hl, h2, fun d er H2 e2 r2 => ⟨rfl, ?_⟩, fun y er H2 e2 => ?_⟩
  · subst er
    obtain ⟨hn, hm⟩ := ite_some hm
    exact q d hm.symm _ H2 (e1.trans e2) (nol_rp (lsW_hW e2) _ hn r2)
  · subst er
    exact qx y (Option.some.inj hm).symm H2 (e1.trans e2)
/-- C(.., k = v) -/
theorem dex_makeK (G : CalIX P w K mg base x k n np ks dvs m) (tk : L2N.Takes X W) (hr : Room (k + 1) A) (ha : DAL X (e :: es) ma) (hk : DK X kws mk) (hA : X.A = A := by rfl) (hP : X.prog = P := by rfl) (hw : X.w = w := by rfl) (hK : X.K = K := by rfl) (hmg : X.mg = mg := by rfl) (hba : X.base = base := by rfl) (hg : Gl X x := by rfl)
    (hall : (backToKw pos (keywordEach kws X.env)).all (·.1.isSome) = true := by rfl) (hks : (backToKw pos (keywordEach kws X.env)).filterMap (·.1) = ks := by rfl)
    (hdb : (x == ("__debug__" : Str)) = false := by decide) (he : starEach (e :: es) X.env = (false, eval e X.env) :: starEach es X.env := by rfl)
    (hpl : ((backTo pos (starEach (e :: es) X.env)).any (·.1) || (backToKw pos (keywordEach kws X.env)).any (·.1.isNone)) = false := by rfl) :
    DEX X W (.Call (.Name x p) (e :: es) kws pos) (mCallXL n m (mApL (mLen np ma) (mLen ks.length mk))) := by
  subst hA hP hw hK hmg hba
  obtain ⟨f, fd, ps, g1, g2, g3, _, g5⟩ := G.ex
  obtain ⟨ta, a1, a2⟩ := ha
  obtain ⟨tq, hk1, hk2⟩ := hk
  refine ⟨_, pe_mkKS g2 g3 hr hg g1 g5 (fun σ => L2N.passAt tk σ) a1 hk1 hall hks hdb he hpl, fun hid O B H σ E r re hm Q q qx => ?_⟩
  obtain ⟨ds, h1, hm⟩ := bind_some hm
  obtain ⟨l1, hm⟩ := ite_someL hm
  obtain ⟨r', h0, hm⟩ := bind_some hm
  obtain ⟨xs, h2, h1'⟩ := bind_some h1
  obtain ⟨ys, h3, rfl⟩ := map_some h1'
  obtain ⟨xs', h2', h4'⟩ := bind_some h2
  obtain ⟨h4, rfl⟩ := ite_some h4'
  obtain ⟨ys', h3', h5'⟩ := bind_some h3
  obtain ⟨h5, rfl⟩ := ite_some h5'
  refine a2 hid O B H σ E _ re h2' _ fun vs H1 e1 r1 => ?_
  refine hk2 hid O B H1 σ E _ (re.grow e1) h3' _ fun zs H2 e2 r2 => ⟨by rw [r1.length, h4], by rw [r2.length, h5], fun a dx ha hdx ne => ?_⟩
  have z2 : RpL X.K (rem (lsW hid O H2) H2) zs _ := RpL.mono lsW_ex _ r2
  refine ⟨lsW hid O H2, H2, a, dx, vs ++ zs, _, r', rfl, ha, hdx, ne, rfl, lsW_m ((re.grow e1).grow e2), (RpL.mono (lsW_mono e2) _ r1).app z2, l1, h0, fun d er H3 e3 r3 => ⟨rfl, ?_⟩, fun y er H3 e3 => ?_⟩
  · subst er
    obtain ⟨hn, hm⟩ := ite_some hm
    exact q d hm.symm _ H3 ((e1.trans e2).trans e3) (nol_rp (lsW_hW e3) _ hn r3)
  · subst er
    exact qx y (Option.some.inj hm).symm H3 ((e1.trans e2).trans e3)
end
end Sx

set_option Elab.async false
set_option linter.all false
set_option maxRecDepth 100000
set_option maxHeartbeats 1000000
namespace Sx
open PySem PySem.Spec PyProof.Rows L2
open Evl (Ex)

/-! ### an owned object's fields that are themselves owned -/
theorem ROks.atK {κ : Type} [DecidableEq κ] {K : PySem.W.Frag} {H : Hp} {θ : Nat → Addr} {k : κ} {r : R} : ∀ {ks : List κ} {xs : List V} {rs : List R}, ROks K H θ xs rs → atK ks rs k = some r → ∃ v, atK ks xs k = some v ∧ ROk K H θ v r
  | [], _, _, _, e => by
    unfold Sx.atK at e
    cases e
  | j :: ks, _, [], h, e => by
    cases h
    unfold Sx.atK at e
    cases e
  | j :: ks, _, r' :: rs, h, e => by
    cases h with
    | cons h1 h2 =>
      unfold Sx.atK at e ⊢
      by_cases hj : j = k
      · rw [if_pos hj] at e ⊢
        cases e
        exact ⟨_, rfl, h1⟩
      · rw [if_neg hj] at e ⊢
        exact h2.atK e
theorem putF_old (f : Str) (y : V) : ∀ (fs : List Str) (xs : List V), fs.length = xs.length → fs.Nodup → f ∈ fs → putF f y (fs.zip xs) = fs.zip (List.zipWith (fun j x => if j = f then y else x) fs xs)
  | [], _, _, _, h => by cases h
  | g :: fs, [], e, _, _ => by cases e
  | g :: fs, x :: xs, e, nd, h => by
    obtain ⟨n1, n2⟩ := List.nodup_cons.mp nd
    rw [List.zip_cons_cons, List.zipWith_cons_cons, List.zip_cons_cons, putF]
    by_cases hg : g = f
    · rw [if_pos hg, if_pos hg]
      have same : ∀ (fs : List Str) (xs : List V), f ∉ fs → fs.zip xs = fs.zip (List.zipWith (fun j x => if j = f then y else x) fs xs) := fun fs => by
        induction fs with
        | nil => intro xs _; rfl
        | cons a fs ih =>
          intro xs hn
          cases xs with
          | nil => rfl
          | cons b xs =>
            rw [List.zipWith_cons_cons, List.zip_cons_cons, List.zip_cons_cons, if_neg (fun z => hn (by rw [z]; exact List.mem_cons_self ..)), ← ih xs (fun z => hn (List.mem_cons_of_mem _ z))]
      rw [← same fs xs (by rw [← hg]; exact n1)]
    · rw [if_neg hg, if_neg hg, putF_old f y fs xs (Nat.succ.inj e) n2 (by
        rcases List.mem_cons.mp h with z | z
        · exact absurd z.symm hg
        · exact z)]
section
variable {X : Cx} {x : Str} {e kx : Expr} {m mk : En → Option D} {pos pos' p dpos spos : Pos} {A : Around} {kk : Nat}
@[simp] def mFldO (i : Nat) (c f : Str) : En → Option D := fun E => match E[i]? with
  | some (.rt (.rf n)) => (match E[n]? with
    | some (.nd (.obj _ y fs rs)) => if y = c then (atK fs rs f).bind (rT E) else none
    | _ => none)
  | _ => none
theorem dt_fldO (i : Nat) (c : Str) {f : Str} (hc : Cls X.K (He.ga X.K c)) (ha : NoAttr X.K (He.ga X.K c) f) (hN : X.N[i]? = some x := by rfl) (hv : Vis X.env.scope x := by first | exact Or.inl rfl | exact Or.inr (Or.inl rfl) | exact Or.inr (Or.inr rfl)) (hd : (x == ("__debug__" : Str)) = false := by decide) (hcd : (x == ("__classdict__" : Str)) = false := by decide)
    (hb : attributeBase (.Name x p) f X.env (eval (.Name x p) X.env) = eval (.Name x p) X.env := by rfl) : DT X (.Attribute (.Name x p) f pos) (mFldO i c f) := ⟨_, pe_fld (pe_var hN hv hd hcd) hb, fun hid O B H σ E d r hm Q q => by
  unfold mFldO at hm
  split at hm
  · rename_i n hi
    split at hm
    · rename_i q0 y fs rs hn
      obtain ⟨hy, hm'⟩ := ite_someL hm
      obtain ⟨t, k1, k2⟩ := bind_some hm'
      subst hy
      obtain ⟨θ, ω, N⟩ := r.nod
      obtain ⟨w, g1, g2⟩ := N.rt i _ hi
      cases g2
      obtain ⟨dx, xs, _, h1, h2, h3⟩ := (N.nd n _ hn).2
      obtain ⟨v, g4, g5⟩ := h3.atK k1
      exact ⟨_, g1, θ n, _, dx, _, v, rfl, h1, hc, ha, by rw [lookup_zip]; exact g4, q v H (Ex.refl H) (N.tv g5 k2)⟩
    · cases hm
  · cases hm⟩
/-- self.f += e, whole numbers -/
@[simp] def mFldAug (g : Int → Int → Int) (i : Nat) (c f : Str) (m : En → Option D) : En → Option Out := fun E => (m E).bind fun d => match d, E[i]? with
  | .int b, some (.rt (.rf n)) => (match E[n]? with
    | some (.nd (.obj q y fs rs)) => (atK fs rs f).bind fun t => match t with
      | .fz (.int a) => if y = c ∧ f ∈ fs ∧ fs.Nodup ∧ fs.length < 900 then some (.nx (E.set n (.nd (.obj q y fs (putVal fs rs f (.fz (.int (g a b)))))))) else none
      | _ => none
    | _ => none)
  | _, _ => none
theorem ds_fldAug (i : Nat) (c : Str) {f : Str} {op : Operator} {g : Int → Int → Int} {rd : V → V → Hp → VK → Prop} (hop : InOp X op rd) (hrd : ∀ (a b : Int) (H : Hp) (Q : VK), Q (.int (g a b)) H → rd (.int a) (.int b) H Q) (hc : Cls X.K (He.ga X.K c)) (ha : NoAttr X.K (He.ga X.K c) f) (he : DE X e m) (hN : X.N[i]? = some x := by rfl) (hv : Vis X.env.scope x := by first | exact Or.inl rfl | exact Or.inr (Or.inl rfl) | exact Or.inr (Or.inr rfl)) (hd : (x == ("__debug__" : Str)) = false := by decide) (hcd : (x == ("__classdict__" : Str)) = false := by decide) :
    DS X (.AugAssign (.Attribute (.Name x p) f spos) op e pos) (mFldAug g i c f m) := ⟨_, ps_fldaug (pe_var hN hv hd hcd) he.pe hop, fun hid O B H σ E o Dn r hm k => by
  obtain ⟨d, h0, hm⟩ := bind_some hm
  split at hm
  · rename_i b n hi
    split at hm
    · rename_i q y fs rs hn
      obtain ⟨t, h1, hm⟩ := bind_some hm
      split at hm
      · rename_i a
        obtain ⟨⟨rfl, hf, nd, hl⟩, rfl⟩ := ite_some hm
        obtain ⟨θ, ω, N⟩ := r.nod
        obtain ⟨w, g1, g2⟩ := N.rt i _ hi
        cases g2
        obtain ⟨dx, xs, k0, k1, k2, k3⟩ := (N.nd n _ hn).2
        obtain ⟨v, g4, g5⟩ := k3.atK h1
        cases g5 with
        | fz g5 =>
          cases g5
          refine ⟨_, g1, θ n, _, dx, _, .int a, rfl, k1, hc, ha, by rw [lookup_zip]; exact g4, ?_⟩
          refine he.si hid O B H σ E _ r h0 _ fun w H1 e1 r1 => ?_
          cases r1
          have R1 := r.grow e1
          have N1 : NodW X.K hid O H1 σ E θ ω := N.move (fun _ _ h => h) (fun _ _ h => ⟨h, rfl⟩) (fun n x h a ha => ⟨(N.nd n x h).1 a ha, fun o q => e1 _ o q⟩) (rem_mono e1) N.dis
          obtain ⟨dx', ys, j0, j1, j2, j3⟩ := (N1.nd n _ hn).2
          refine hrd a b H1 _ ⟨dx', _, j1, by rw [List.length_zip, j2, Nat.min_self, ← j2]; omega, ?_⟩
          rw [putF_old _ _ _ _ j2 nd hf]
          have vis : Ex (rem (orS hid O) H1) (rem (orS hid O) (upd H1 (θ n) (.ins (He.ga X.K y) dx' (fs.zip (List.zipWith (fun j x => if j = f then V.int (g a b) else x) fs ys))))) := rem_upd (.inr ((N1.nd n _ hn).1 _ (List.mem_cons_self ..)))
          refine k O σ _ (R1.chgN N1 hn (List.mem_cons_self ..) trivial ⟨dx', _, j0, upd_same, by rw [List.length_zipWith, ← j2, Nat.min_self], ?_⟩)
          unfold putVal
          rw [if_pos hf]
          exact zipR (.fz (.int _)) (j3.mono vis _)
      · cases hm
    · cases hm
  · cases hm⟩
theorem ds_fldAdd (i : Nat) (c : Str) {f : Str} (hc : Cls X.K (He.ga X.K c)) (ha : NoAttr X.K (He.ga X.K c) f) (he : DE X e m) (hN : X.N[i]? = some x := by rfl) (hv : Vis X.env.scope x := by first | exact Or.inl rfl | exact Or.inr (Or.inl rfl) | exact Or.inr (Or.inr rfl)) (hd : (x == ("__debug__" : Str)) = false := by decide) (hcd : (x == ("__classdict__" : Str)) = false := by decide) :
    DS X (.AugAssign (.Attribute (.Name x p) f spos) .Add e pos) (mFldAug (fun i j => i + j) i c f m) := ds_fldAug i c in_add (fun a b H Q q => ⟨a, b, rfl, rfl, q⟩) hc ha he hN hv hd hcd
/-- self.f = {}, tuple keys -/
@[simp] def mFldD (i n2 : Nat) (ks0 : KS) (c f : Str) : En → Option Out := fun E => match E[i]? with
  | some (.rt (.rf n)) => (match E[n]? with
    | some (.nd (.obj q y fs rs)) => if y = c ∧ f ∉ fs ∧ fs.length < 900 ∧ noE n2 E = true ∧ i ≠ n2 then some (.nx ((E.set n2 (.nd (.dct ks0 []))).set n (.nd (.obj q y (fs ++ [f]) (rs ++ [.rf n2]))))) else none
    | _ => none)
  | _ => none
theorem ss_fldD {K : PySem.W.Frag} {ks0 : KS} (i n2 : Nat) (c : Str) {f : Str} {te : TE} (h0 : ks0.len = 0) (hte : ∀ σ H Q, (∀ p, H p = none → Q (.ref p) (upd H p (ks0.ho []))) → te σ H Q) (hc : Cls K (He.ga K c)) (ha : NoAttr K (He.ga K c) f) : SS K (sFld K (tVar i) te f) (mFldD i n2 ks0 c f) := fun hid O B H σ E o Dn r hm k => by
  unfold mFldD at hm
  split at hm
  · rename_i n hi
    split at hm
    · rename_i q y fs rs hn
      obtain ⟨⟨hy, hf, hl, no, hin⟩, rfl⟩ := ite_some hm
      subst hy
      refine hte σ H _ fun p hp => ?_
      have hne : n2 ≠ n := fun z => by
        have := noE_at no hi
        rw [z] at this
        simp at this
      obtain ⟨θ, ω, N, z, r2⟩ := r.newN (H' := upd H p (ks0.ho [])) (p := p) (w := []) (x := .dct ks0 []) (n := n2) (fun a ha => by rw [List.mem_singleton.mp ha]; exact hp) (Ex.new hp) (fun a ha => by rw [List.mem_singleton.mp ha]; exact ⟨_, upd_same, ho_mut _ _⟩) no fun θ => ⟨[], upd_same, h0, .nil⟩
      have hn' : (E.set n2 (.nd (.dct ks0 [])))[n]? = some (.nd (.obj q y fs rs)) := by rw [List.getElem?_set_ne hne]; exact hn
      have hi' : (E.set n2 (.nd (.dct ks0 [])))[i]? = some (.rt (.rf n)) := by
        rw [List.getElem?_set_ne (fun w => hin w.symm)]
        exact hi
      obtain ⟨w, g1, g2⟩ := N.rt i _ hi'
      cases g2
      refine ⟨_, g1, ?_⟩
      obtain ⟨dx, xs, k0, k1, k2, k3⟩ := (N.nd n _ hn').2
      refine ⟨θ n, _, dx, _, rfl, k1, hc, ha, ?_, ?_⟩
      · rw [List.length_zip, k2, Nat.min_self, ← k2]
        omega
      · rw [putF_new _ _ _ _ k2 hf]
        have vis : Ex (rem (orS hid (orS O (· ∈ [p]))) (upd H p (ks0.ho []))) (rem (orS hid (orS O (· ∈ [p]))) (upd (upd H p (ks0.ho [])) (θ n) (.ins (He.ga K y) dx ((fs ++ [f]).zip (xs ++ [.ref p]))))) := rem_upd (.inr ((N.nd n _ hn').1 _ (List.mem_cons_self ..)))
        refine k _ σ _ (r2.chgN N hn' (List.mem_cons_self ..) trivial ⟨dx, _, k0, upd_same, by rw [List.length_append, List.length_append, k2]; rfl, (k3.mono vis _).app (.cons ?_ .nil)⟩)
        rw [← z]
        exact .rf n2
    · cases hm
  · cases hm
theorem ds_fldD0T (i n2 : Nat) (c : Str) {f : Str} (hc : Cls X.K (He.ga X.K c)) (ha : NoAttr X.K (He.ga X.K c) f) (hN : X.N[i]? = some x := by rfl) (hv : Vis X.env.scope x := by first | exact Or.inl rfl | exact Or.inr (Or.inl rfl) | exact Or.inr (Or.inr rfl)) (hd : (x == ("__debug__" : Str)) = false := by decide) (hcd : (x == ("__classdict__" : Str)) = false := by decide)
    (hs : swapsWith (.Dict [] [] dpos) (some (.Attribute (.Name x p) f spos)) pos.line X.env = pure false := by rfl) : DS X (.Assign [.Attribute (.Name x p) f spos] (.Dict [] [] dpos) pos) (mFldD i n2 (.t []) c f) :=
  ⟨_, ps_fld (pe_var hN hv hd hcd) pe_dnewT hs, ss_fldD i n2 c rfl (fun σ H Q q => q) hc ha⟩
theorem ds_fldD0 (i n2 : Nat) (c : Str) {f : Str} (hc : Cls X.K (He.ga X.K c)) (ha : NoAttr X.K (He.ga X.K c) f) (hN : X.N[i]? = some x := by rfl) (hv : Vis X.env.scope x := by first | exact Or.inl rfl | exact Or.inr (Or.inl rfl) | exact Or.inr (Or.inr rfl)) (hd : (x == ("__debug__" : Str)) = false := by decide) (hcd : (x == ("__classdict__" : Str)) = false := by decide)
    (hs : swapsWith (.Dict [] [] dpos) (some (.Attribute (.Name x p) f spos)) pos.line X.env = pure false := by rfl) : DS X (.Assign [.Attribute (.Name x p) f spos] (.Dict [] [] dpos) pos) (mFldD i n2 (.k []) c f) :=
  ⟨_, ps_fld (pe_var hN hv hd hcd) pe_dnewK hs, ss_fldD i n2 c rfl (fun σ H Q q => q) hc ha⟩
/-- self.f[k] = e -/
@[simp] def mFDPut (i : Nat) (c f : Str) (m mk : En → Option D) : En → Option Out := fun E => (m E).bind fun d => (mk E).bind fun a => match E[i]? with
  | some (.rt (.rf n)) => (match E[n]? with
    | some (.nd (.obj _ y fs rs)) => (match atK fs rs f with
      | some (.rf n2) => (match E[n2]? with
        | some (.nd (.dct ks rs2)) => (putKS ks rs2 a (.fz d)).bind fun res => if y = c ∧ rs2.length < 100000 then some (.nx (E.set n2 (.nd (.dct res.1 res.2)))) else none
        | _ => none)
      | _ => none)
    | _ => none)
  | _ => none
theorem ds_fdput (i : Nat) (c : Str) {f : Str} {apos : Pos} (hr : Room kk A) (hc : Cls X.K (He.ga X.K c)) (ha : NoAttr X.K (He.ga X.K c) f) (he : DE X e m) (hk : DE X kx mk) (hA : X.A = A := by rfl) (hN : X.N[i]? = some x := by rfl) (hv : Vis X.env.scope x := by first | exact Or.inl rfl | exact Or.inr (Or.inl rfl) | exact Or.inr (Or.inr rfl)) (hd : (x == ("__debug__" : Str)) = false := by decide) (hcd : (x == ("__classdict__" : Str)) = false := by decide)
    (hb : attributeBase (.Name x p) f X.env (eval (.Name x p) X.env) = eval (.Name x p) X.env := by rfl)
    (hs : swapsWith e (some (.Subscript (.Attribute (.Name x p) f apos) kx spos)) pos.line X.env = pure false := by rfl) : DS X (.Assign [.Subscript (.Attribute (.Name x p) f apos) kx spos] e pos) (mFDPut i c f m mk) :=
  ⟨_, ps_dput (hu_of hr hA) (pe_fld (pe_var hN hv hd hcd) hb) hk.pe he.pe hs, fun hid O B H σ E o Dn r hm k => by
  obtain ⟨d, h0, hm⟩ := bind_some hm
  obtain ⟨a, h1, hm⟩ := bind_some hm
  split at hm
  · rename_i n hi
    split at hm
    · rename_i q0 y fs rs hn
      split at hm
      · rename_i n2 hf
        split at hm
        · rename_i ks rs2 hn2
          obtain ⟨res, h2, hm⟩ := bind_some hm
          obtain ⟨⟨hy, hl⟩, rfl⟩ := ite_some hm
          subst hy
          refine he.si hid O B H σ E d r h0 _ fun v H1 e1 r1 => ?_
          have R1 := r.grow e1
          obtain ⟨θ, ω, N⟩ := R1.nod
          obtain ⟨w, g1, g2⟩ := N.rt i _ hi
          cases g2
          obtain ⟨dx, xs, _, j1, j2, j3⟩ := (N.nd n _ hn).2
          obtain ⟨u, g4, g5⟩ := j3.atK hf
          cases g5
          refine ⟨_, g1, θ n, _, dx, _, .ref (θ n2), rfl, j1, hc, ha, by rw [lookup_zip]; exact g4, ?_⟩
          refine hk.si hid O B H1 σ E a R1 h1 _ fun y H2 e2 r2 => ?_
          have R2 := R1.grow e2
          have N2 : NodW X.K hid O H2 σ E θ ω := N.move (fun _ _ h => h) (fun _ _ h => ⟨h, rfl⟩) (fun n x h a ha => ⟨(N.nd n x h).1 a ha, fun o q => e2 _ o q⟩) (rem_mono e2) N.dis
          obtain ⟨zs, k1, k2, k3⟩ := (N2.nd n2 _ hn2).2
          obtain ⟨zs', p1, p2, p3⟩ := dput_tv (v := v) (.inl r2 : Tv X.K hid O H2 y a) k1 k2 (by rw [k3.length]; exact size_lt hl) h2
          have vis : Ex (rem (orS hid O) H2) (rem (orS hid O) (upd H2 (θ n2) (res.1.ho zs'))) := rem_upd (.inr ((N2.nd n2 _ hn2).1 _ (List.mem_cons_self ..)))
          refine ⟨θ n2, _, rfl, p1, ?_⟩
          exact k O σ _ (R2.chgN N2 hn2 (List.mem_cons_self ..) (ho_mut _ _) ⟨zs', upd_same, p2, p3 _ θ (.fz ((r1.mono (rem_mono e2) _).mono vis _)) (k3.mono vis _)⟩)
        · cases hm
      · cases hm
    · cases hm
  · cases hm⟩
end
end Sx

set_option Elab.async false
set_option linter.all false
set_option maxRecDepth 100000
set_option maxHeartbeats 1000000
namespace Sx
open PySem PySem.Spec PyProof.Rows L2
open Evl (Ex)

/-! ### texts as sequences -/
def signsD (z : Str) : List D := z.cps.toList.map fun c => .str ⟨#[c]⟩
@[simp] def txtOf : D → Option (List D)
  | .str z => some (signsD z)
  | _ => none
section
variable {X : Cx} {tg a b e : Expr} {ma mb m : En → Option D} {pos p : Pos}
theorem di_str (h : DT X e m) : DI X tg e (fun E => (m E).bind txtOf) := ⟨_, pi_str h.pe, fun hid O B H σ E ds r hm R k => by
  obtain ⟨x, h1, hm⟩ := bind_some hm
  refine h.si hid O B H σ E x r h1 _ fun v H1 e1 r1 => ?_
  unfold txtOf at hm
  split at hm
  · rename_i z
    cases hm
    obtain rfl := r1.str
    refine ⟨z, rfl, ?_⟩
    have w := walk_str (z := z)
    have hl : z.cps.size = (signsD z).length := by
      unfold signsD
      rw [List.length_map, Array.length_toList]
    rw [hl] at w
    refine k _ H1 _ _ e1 w (fun H' _ => trivial) fun i H2 x H2' W' d y hd _ _ => ?_
    obtain ⟨rfl, c, h2, rfl⟩ := y
    unfold signsD at hd
    rw [List.getElem?_map, Array.getElem?_toList, h2] at hd
    cases hd
    exact ⟨Ex.refl _, .str _⟩
  · cases hm⟩
/-- a sign in a text -/
@[simp] def inSD : D → D → Option D
  | .str s, .str z => if s.cps.size = 1 then some (.bl (decide (s.cps.toList.all fun c => decide (c ∈ z.cps.toList)))) else none
  | _, _ => none
theorem one_sign {s : Str} (h : s.cps.size = 1) : ∃ c, s = ⟨#[c]⟩ := by
  obtain ⟨cs⟩ := s
  have h : cs.size = 1 := h
  obtain ⟨l⟩ := cs
  have h : l.length = 1 := h
  obtain ⟨c, rfl⟩ := List.length_eq_one_iff.mp h
  exact ⟨c, rfl⟩
abbrev rInT : R2 := fun x y H Q => ∃ (c : Nat) (z : Str), x = .str ⟨#[c]⟩ ∧ y = .str z ∧ Q (.bl (decide (c ∈ z.cps.toList))) H
abbrev rNotInT : R2 := fun x y H Q => ∃ (c : Nat) (z : Str), x = .str ⟨#[c]⟩ ∧ y = .str z ∧ Q (.bl (!decide (c ∈ z.cps.toList))) H
abbrev rInAll (K : PySem.W.Frag) : R2 := fun x y H Q => rIn K false x y H Q ∨ rInT x y H Q
abbrev rNotInAll (K : PySem.W.Frag) : R2 := fun x y H Q => rIn K true x y H Q ∨ rNotInT x y H Q
theorem op_inAll : OpR X (compareOp .In) (rInAll X.K) := OpR.or op_in_seq op_in_sign
theorem op_notInAll : OpR X (compareOp .NotIn) (rNotInAll X.K) := OpR.or op_notIn_seq op_notIn_sign
@[simp] def inDA (x c : D) : Option D := match c with
  | .str _ => inSD x c
  | _ => inD x c
@[simp] def notInDA (x c : D) : Option D := (inDA x c).map fun d => match d with
  | .bl b => .bl (!b)
  | d => d
theorem inSD_some {x y : D} {d : D} (h : inSD x y = some d) : ∃ c z, x = .str ⟨#[c]⟩ ∧ y = .str z ∧ d = .bl (decide (c ∈ z.cps.toList)) := by
  unfold inSD at h
  split at h
  · rename_i s z
    obtain ⟨h1, rfl⟩ := ite_some h
    obtain ⟨c, rfl⟩ := one_sign h1
    refine ⟨c, z, rfl, rfl, ?_⟩
    simp
  · cases h
theorem od_inA {K : PySem.W.Frag} : OD K (rInAll K) inDA := fun hid O H x y a b d al ra rb hm Q q => by
  unfold inDA at hm
  split at hm
  · obtain ⟨c, z, rfl, ez, rfl⟩ := inSD_some hm
    cases ez
    obtain rfl := ra.str
    obtain rfl := rb.str
    exact .inr ⟨c, _, rfl, rfl, q _ H (Ex.refl H) (.bl _)⟩
  · exact .inl (od_in hid O H x y a b d al ra rb hm Q q)
theorem od_notInA {K : PySem.W.Frag} : OD K (rNotInAll K) notInDA := fun hid O H x y a b d al ra rb hm Q q => by
  obtain ⟨d', h0, rfl⟩ := map_some hm
  unfold inDA at h0
  split at h0
  · obtain ⟨c, z, rfl, ez, rfl⟩ := inSD_some h0
    cases ez
    obtain rfl := ra.str
    obtain rfl := rb.str
    exact .inr ⟨c, _, rfl, rfl, q _ H (Ex.refl H) (.bl _)⟩
  · refine .inl (od_notIn hid O H x y a b _ al ra rb ?_ Q q)
    unfold notInD
    rw [h0]
    rfl
/-- a slice of a text -/
@[simp] def slS (lo hi : Option Int) : D → Option D
  | .str z => if z.length ≤ 100000 then some (.str (Txt.slice z lo hi)) else none
  | _ => none
theorem de_slS {lo hi : Option Expr} {ml mh : En → Option (Option Int)} {p2 : Pos} (ha : DT X a ma) (hl : DO X lo ml) (hh : DO X hi mh) :
    DE X (.Subscript a (.Slice lo hi none p2) pos) (fun E => (ma E).bind fun x => (ml E).bind fun l => (mh E).bind fun h => slS l h x) := ⟨_, pe_slice C8.sl_txt ha.pe hl.po hh.po, fun hid O B H σ E d re hm Q q => by
  obtain ⟨x, h0, hm⟩ := bind_some hm
  obtain ⟨l, h2, hm⟩ := bind_some hm
  obtain ⟨h, h3, hm⟩ := bind_some hm
  refine ha.si hid O B H σ E x re h0 _ fun v H1 e1 r1 => ?_
  refine hl.si hid O B H1 σ E l (re.grow e1) h2 _ fun H2 e2 => ?_
  refine hh.si hid O B H2 σ E h (re.grow (e1.trans e2)) h3 _ fun H3 e3 => ?_
  unfold slS at hm
  split at hm
  · obtain ⟨h4, rfl⟩ := ite_some hm
    obtain rfl := r1.str
    exact ⟨_, rfl, size_le h4, q _ H3 ((e1.trans e2).trans e3) (.str _)⟩
  · cases hm⟩
/-- str(i) -/
@[simp] def strI : D → Option D
  | .int i => if i.natAbs.log2 < 1920 then some (.str (toString i)) else none
  | _ => none
theorem de_strI (hm : X.mg "str" = none) (ha : DT X a ma) (hg : Gl X "str" := by rfl) (hs : starEach [a] X.env = (false, eval a X.env) :: starEach [] X.env := by rfl) (hpl : (backTo pos (starEach [] X.env)).any (·.1) = false := by rfl) :
    DE X (.Call (.Name "str" p) [a] [] pos) (mUn strI ma) := ⟨_, pe_callTy call_str_int hg hm (by decide +kernel) (pa_cons ha.pe pa_nil hs) (by decide) (by decide) hs hpl, se_call1 ha.si fun hid O H v x d al rv hx Q q => by
  unfold strI at hx
  split at hx
  · rename_i i
    obtain ⟨h1, rfl⟩ := ite_some hx
    obtain rfl := rv.int
    refine Exists.intro i ⟨rfl, h1, q _ H (Ex.refl H) (.str _)⟩
  · cases hx⟩
/-! ### tuples of texts that stand in the module -/
structure CtS (K : PySem.W.Frag) (mg : Str → Option Value) (x : Str) (ss : List Str) : Prop where
  g : mg x = some (.ref (He.ga K x))
  t : ∀ H, SqT K H (He.ga K x) (ss.map V.str)
@[simp] def inG (ss : List Str) : D → Option Bool
  | .str z => some (ss.contains z)
  | _ => none
theorem se_inG {K : PySem.W.Frag} {mg : Str → Option Value} {x : Str} {ss : List Str} {ta : TE} {neg : Bool} (C : CtS K mg x ss) (ha : ST K ta ma) {hid O : AS} {B H : Hp} {σ : L2.St} {E : En} {c : Bool} (re : RE K hid O B H σ E) {d : D} (h1 : ma E = some d) (h2 : inG ss d = some c) {Q : VK} (q : ∀ H', Ex H H' → Q (.bl (if neg then !c else c)) H') : tOp (rIn K neg) ta (tC (.ref (He.ga K x))) σ H Q := by
  refine ha hid O B H σ E d re h1 _ fun v H1 e1 r1 => ?_
  unfold inG at h2
  split at h2
  · cases h2
    obtain rfl := r1.str
    refine ⟨_, _, rfl, .inr (C.t H1), rfl, flat_strs ss, ?_⟩
    rw [inV_str]
    exact q H1 e1
  · cases h2
theorem de_inG {x : Str} {ss : List Str} {p2 : Pos} (C : CtS X.K X.mg x ss) (ha : DT X a ma) (hg : Gl X x := by rfl) (hd : (x == ("__debug__" : Str)) = false := by decide) (hm : behindInMarks .In (.Name x p2) = false := by first | exact nomark _ | with_unfolding_all rfl) :
    DE X (.Compare a [.In] [.Name x p2] pos) (fun E => ((ma E).bind (inG ss)).map .bl) := ⟨_, pe_cmpR op_in_seq ha.pe (pe_glob (v := .ref (He.ga X.K x)) hg C.g rfl hd) hm, fun hid O B H σ E d re hm Q q => by
  obtain ⟨c, h1, rfl⟩ := map_some hm
  obtain ⟨x, h2, h3⟩ := bind_some h1
  exact se_inG (neg := false) C ha.si re h2 h3 fun H' e => q _ H' e (.bl _)⟩
theorem db_inG {x : Str} {ss : List Str} {p2 : Pos} (C : CtS X.K X.mg x ss) (ha : DT X a ma) (hg : Gl X x := by rfl) (hd : (x == ("__debug__" : Str)) = false := by decide) (hm : behindInMarks .In (.Name x p2) = false := by first | exact nomark _ | with_unfolding_all rfl) :
    DB X (.Compare a [.In] [.Name x p2] pos) (fun E => (ma E).bind (inG ss)) := ⟨_, pt_cmpR op_in_seq ha.pe (pe_glob (v := .ref (He.ga X.K x)) hg C.g rfl hd) hm, fun hid O B H σ E c re hm Q q => by
  obtain ⟨x, h2, h3⟩ := bind_some hm
  exact se_inG (neg := false) C ha.si re h2 h3 fun H' e => ⟨c, rfl, q H' e⟩⟩
end
end Sx

set_option Elab.async false
set_option linter.all false
set_option maxRecDepth 100000
set_option maxHeartbeats 1000000
namespace Sx
open PySem PySem.Spec PyProof.Rows L2
open Evl (Ex)

section
variable {X : Cx} {e e2 : Expr} {m m2 : En → Option D} {p pos tpos apos cpos : Pos} {elts : List Expr} {kk : Nat} {x : Str}
/-- zip of a tuple of texts of the module and a tuple -/
theorem di_zipG {ss : List Str} {p3 : Pos} (C : CtS X.K X.mg x ss) (hm : X.mg "zip" = none) (h2 : DE X e2 m2) (hg : Gl X "zip" := by rfl) (hgx : Gl X x := by rfl) (hd : (x == ("__debug__" : Str)) = false := by decide) (hs : starEach [.Name x p3, e2] X.env = (false, eval (.Name x p3) X.env) :: starEach [e2] X.env := by rfl) (hs2 : starEach [e2] X.env = (false, eval e2 X.env) :: starEach [] X.env := by rfl) (hpl : (backTo pos (starEach [e2] X.env)).any (·.1) = false := by rfl) :
    DI X (.Tuple elts kk tpos) (.Call (.Name "zip" p) [.Name x p3, e2] [] pos) (fun E => (m2 E).bind fun b => (tupOf b).map fun bs => zipD (ss.map .str) bs) := ⟨_, RZ.pi_zipA hg hm (pa_cons (pe_glob (v := .ref (He.ga X.K x)) hgx C.g rfl hd) (pa_cons h2.pe pa_nil hs2) hs) hs hpl, fun hid O B H σ E ds r hm R k => by
  obtain ⟨b, k2, hm⟩ := bind_some hm
  obtain ⟨bs, k3, rfl⟩ := map_some hm
  refine h2.si hid O B H σ E b r k2 _ fun w H2 e2 r2 => ?_
  unfold tupOf at k3
  split at k3
  · cases k3
    cases r2 with
    | @tup p' ys _ g3 g4 =>
      refine ⟨He.ga X.K x, p', ss.map V.str, ys, rfl, .inr ⟨C.t H2, Evl.st_of (rem_some.mp g3).2, ?_⟩⟩
      have wk : Walk (RZ.ItzT X.K (He.ga X.K x) p') (zipD (ss.map .str) bs).length (fun H => SqT X.K H (He.ga X.K x) (ss.map V.str) ∧ SqT X.K H p' ys) (YPair (fun i => (ss.map V.str)[i]?) (fun i => ys[i]?)) := by
        rw [zipD_len, List.length_map, ← List.length_map (f := V.str), ← g4.length]
        refine ⟨fun i _ hi q => ?_, fun _ q => ⟨_, ys, q.1, q.2, by omega⟩, fun i H v H' _ q y => ?_⟩
        · exact ⟨ss.map V.str, ys, (ss.map V.str)[i], ys[i], q.1, q.2, List.getElem?_eq_getElem (by omega), List.getElem?_eq_getElem (by omega)⟩
        · obtain ⟨T, x, z, h1, h2, h3, h4, h5⟩ := y
          exact ⟨T, x, z, h1, h2, h3, h4 _ q.1, h5 ys q.2⟩
      have gs : ∀ (H : Hp) (ss : List Str), RpL X.K H (ss.map V.str) (ss.map D.str) := fun H ss => by
        induction ss with
        | nil => exact .nil
        | cons s ss ih => exact .cons (.str s) ih
      exact k _ H2 _ _ e2 wk (fun H' z => ⟨C.t H', Evl.st_of (z _ _ g3)⟩) (Yd.zip (gs _ ss) g4)
  · cases k3⟩
/-- xs.reverse() -/
@[simp] def mRev (i : Nat) : En → Option Out := fun E => match E[i]? with
  | some (.ow ds) => some (.nx (E.set i (.ow ds.reverse)))
  | _ => none
theorem ds_rev (i : Nat) (hN : X.N[i]? = some x := by rfl) (hv : Vis X.env.scope x := by first | exact Or.inl rfl | exact Or.inr (Or.inl rfl) | exact Or.inr (Or.inr rfl)) (hd : (x == ("__debug__" : Str)) = false := by decide) (hcd : (x == ("__classdict__" : Str)) = false := by decide)
    (hbase : attributeBase (.Name x p) "reverse" X.env (eval (.Name x p) X.env) = eval (.Name x p) X.env := by rfl) (hline : (apos.endLine == cpos.line) = true := by rfl)
    (hsw : swapsWith (.Call (.Attribute (.Name x p) "reverse" apos) [] [] cpos) none pos.line X.env = pure false := by rfl) : DS X (.Expr (.Call (.Attribute (.Name x p) "reverse" apos) [] [] cpos) pos) (mRev i) :=
  ⟨_, ps_expr (pe_bm0 PySem.F.plainAttrs_list PySem.F.slot_list_reverse PySem.F.type_list_reverse mt_reverse (pe_var hN hv hd hcd) hbase hline) hsw, fun hid O B H σ E o Dn r hm k => by
  unfold mRev at hm
  split at hm
  · rename_i ds hi
    cases hm
    obtain ⟨q, xs, g1, g2, g3, g4⟩ := r.ow i ds hi
    exact ⟨.ref q, g1, .inl ⟨rfl, xs, .inl (.inl g3)⟩, q, xs, rfl, rfl, g3, k O σ _ (r.chg hi g1 g4.rev)⟩
  · cases hm⟩
/-- xs.extend(a new list) -/
@[simp] def mExt (i : Nat) (m : En → Option (List D)) : En → Option Out := fun E => (m E).bind fun es => match E[i]? with
  | some (.ow ds) => if ds.length + es.length ≤ 100000 then some (.nx (E.set i (.ow (ds ++ es)))) else none
  | _ => none
theorem ds_ext (i : Nat) {mf : En → Option (List D)} (he : DF X e mf) (hN : X.N[i]? = some x := by rfl) (hv : Vis X.env.scope x := by first | exact Or.inl rfl | exact Or.inr (Or.inl rfl) | exact Or.inr (Or.inr rfl)) (hd : (x == ("__debug__" : Str)) = false := by decide) (hcd : (x == ("__classdict__" : Str)) = false := by decide)
    (hbase : attributeBase (.Name x p) "extend" X.env (eval (.Name x p) X.env) = eval (.Name x p) X.env := by rfl)
    (hfew : ((backTo cpos (starEach [e] X.env)).all (fun x => !x.1) && (backToKw cpos (keywordEach [] X.env)).all (fun x => x.1.isSome)
      && decide ([e].length + ([] : List Keyword).length + (if ([] : List Keyword).isEmpty then 0 else 1) < 30)) = true := by rfl)
    (hline : (apos.endLine == cpos.line) = true := by rfl) (hs : starEach [e] X.env = (false, eval e X.env) :: starEach [] X.env := by rfl) (hplain : (backTo cpos (starEach [] X.env)).any (·.1) = false := by rfl)
    (hsw : swapsWith (.Call (.Attribute (.Name x p) "extend" apos) [e] [] cpos) none pos.line X.env = pure false := by rfl) :
    DS X (.Expr (.Call (.Attribute (.Name x p) "extend" apos) [e] [] cpos) pos) (mExt i mf) :=
  ⟨_, ps_expr (pe_bm PySem.F.plainAttrs_list PySem.F.slot_list_extend PySem.F.type_list_extend mt_extend (pe_var hN hv hd hcd) (pa_cons he.pe pa_nil hs) hbase hfew hline hs hplain) hsw, fun hid O B H σ E o Dn r hm k => by
  obtain ⟨es, h1, hm⟩ := bind_some hm
  split at hm
  · rename_i ds h2
    obtain ⟨h3, rfl⟩ := ite_some hm
    obtain ⟨q, xs, g1, g2, g3, g4⟩ := r.ow i ds h2
    refine ⟨.ref q, g1, .inl ⟨rfl, xs, .inl (.inl g3)⟩, ?_⟩
    refine he.si hid O B H σ E es r h1 _ fun b zs H1 hb e1 hz rz => ?_
    have R1 := r.grow e1
    obtain ⟨q', xs', g1', g2', g3', g4'⟩ := R1.ow i ds h2
    rw [g1] at g1'
    cases g1'
    rw [e1 q _ g3] at g3'
    cases g3'
    have sub : Ex (rem (orS (orS hid O) (· = b)) H1) (rem (orS hid O) H1) := rem_sub fun a z => .inl z
    exact ⟨q, b, xs, zs, rfl, rfl, e1 q _ g3, hz, by rw [g4.length, rz.length]; exact size_le h3, k O σ _ (R1.chg h2 g1 (g4'.app (rz.mono sub _)))⟩
  · cases hm⟩
/-- isinstance(e, (A, B)) of built-in types -/
@[simp] def isiT (Ts : List String) (d : D) : Option D := (tyName d).bind fun t => if Ts.all (fun T => (kitB t T).isSome) = true then some (.bl (Ts.any fun T => kitB t T == some true)) else none
theorem kit_any {K : PySem.W.Frag} {t : String} : ∀ {Ts : List String}, Ts.all (fun T => (kitB t T).isSome) = true → PySem.W.kitAny K (.type t) (Ts.map Value.type) = some (Ts.any fun T => kitB t T == some true)
  | [], _ => rfl
  | T :: Ts, h => by
    rw [List.all_cons, Bool.and_eq_true] at h
    obtain ⟨b, hb⟩ := Option.isSome_iff_exists.mp h.1
    have h1 : PySem.W.kitOne K (.type t) (.type T) = some b := kit_ty hb
    rw [List.map_cons, List.any_cons, hb]
    unfold PySem.W.kitAny
    rw [h1]
    cases b with
    | true => rfl
    | false =>
      show PySem.W.kitAny K (.type t) (Ts.map Value.type) = _
      rw [kit_any h.2]
      rfl
theorem de_isiT {T1 T2 : Str} {T1' T2' : String} {p2 p3 q2 : Pos} {k0 : Nat} (hm : X.mg "isinstance" = none) (hm1 : X.mg T1 = none) (hm2 : X.mg T2 = none) (hv1 : bootBuiltins T1 = some (.type T1')) (hv2 : bootBuiltins T2 = some (.type T2')) (ha : DT X e m) (hg : Gl X "isinstance" := by rfl) (hg1 : Gl X T1 := by rfl) (hg2 : Gl X T2 := by rfl) (hn1 : T1 ≠ "__name__" := by decide) (hd1 : (T1 == ("__debug__" : Str)) = false := by decide) (hn2 : T2 ≠ "__name__" := by decide) (hd2 : (T2 == ("__debug__" : Str)) = false := by decide)
    (hs : starEach [e, .Tuple [.Name T1 p2, .Name T2 p3] k0 q2] X.env = (false, eval e X.env) :: starEach [.Tuple [.Name T1 p2, .Name T2 p3] k0 q2] X.env := by rfl) (hs2 : starEach [.Tuple [.Name T1 p2, .Name T2 p3] k0 q2] X.env = (false, eval (.Tuple [.Name T1 p2, .Name T2 p3] k0 q2) X.env) :: starEach [] X.env := by rfl) (hs3 : starEach [.Name T1 p2, .Name T2 p3] X.env = (false, eval (.Name T1 p2) X.env) :: starEach [.Name T2 p3] X.env := by rfl) (hs4 : starEach [.Name T2 p3] X.env = (false, eval (.Name T2 p3) X.env) :: starEach [] X.env := by rfl) (hpl : (backTo pos (starEach [.Tuple [.Name T1 p2, .Name T2 p3] k0 q2] X.env)).any (·.1) = false := by rfl) :
    DE X (.Call (.Name "isinstance" p) [e, .Tuple [.Name T1 p2, .Name T2 p3] k0 q2] [] pos) (mUn (isiT [T1', T2']) m) := ⟨_, pe_callB call_isiT hg hm (by decide +kernel) (pa_cons ha.pe (pa_cons (pe_tup (pa_cons (pe_bltn (v := .ty T1') hg1 hm1 hv1 rfl hn1 hd1) (pa_cons (pe_bltn (v := .ty T2') hg2 hm2 hv2 rfl hn2 hd2) pa_nil hs4) hs3)) pa_nil hs2) hs) (by decide) (by decide) hs hpl, fun hid O B H σ E d re hm Q q => by
  obtain ⟨x, h1, hm⟩ := bind_some hm
  obtain ⟨ty, ht, hm⟩ := bind_some hm
  obtain ⟨hb, rfl⟩ := ite_some hm
  refine ha.si hid O B H σ E _ re h1 _ fun v H1 e1 r1 => ?_
  refine ⟨by show (2 : Nat) ≤ sizeLine; decide, fun t hT => ?_⟩
  have ex : Ex H1 (upd H1 t (.tup [V.ty T1', V.ty T2'])) := Ex.new hT
  exact ⟨v, t, _, .type ty, [Value.type T1', Value.type T2'], _, rfl, upd_same, .cons (.ty T1') (.cons (.ty T2') .nil), tyX_of (r1.mono ex) ht, kit_any (Ts := [T1', T2']) hb, q _ _ (e1.trans ex) (.bl _)⟩⟩
end
end Sx

set_option Elab.async false
set_option linter.all false
set_option maxRecDepth 100000
set_option maxHeartbeats 3200000
namespace Sx
open PySem PySem.Spec PyProof.Rows L2
open Evl (Ex)

/-! ### the set of a list of texts: how many unlike ones -/
def unl {κ : Type} [DecidableEq κ] (ks : List κ) : Nat → Nat
  | 0 => 0
  | i + 1 => match ks[i]? with
    | some k => if k ∈ ks.take i then unl ks i else unl ks i + 1
    | none => unl ks i
theorem unl_le {κ : Type} [DecidableEq κ] (ks : List κ) : ∀ i, unl ks i ≤ i
  | 0 => Nat.le_refl _
  | i + 1 => by
    have := unl_le ks i
    unfold unl
    split
    · split <;> omega
    · omega
abbrev sizeU {κ : Type} [DecidableEq κ] (ks : List κ) : Nat := unl ks ks.length
section
variable {prog : Program} {w : World} {A : Around} {R : Result → Shared → Prop} {I S : Addr} {fp wr : List Addr} {G : Array GenState → Array GenState → Prop} {n : Nat} {P : Nat → Value → Prop} {St : Nat → Shared → Prop} {κ : Type} [DecidableEq κ]
abbrev SetUp (prog : Program) (w : World) (kd : KeyKind prog w κ) (S : Addr) (ks : List κ) (i : Nat) (s : Shared) : Prop := s.heap.SetOf kd S (fun k => decide (k ∈ ks.take i)) (unl ks i)
theorem setUp_keep {kd : KeyKind prog w κ} {ks : List κ} {i : Nat} {s s' : Shared} (h : SetUp prog w kd S ks i s) (k : ∀ o, s.heap.get? S = some o → s'.heap.get? S = some o) : SetUp prog w kd S ks i s' :=
  let ⟨o, es, ep, t, ho, more⟩ := h; ⟨o, es, ep, t, k o ho, more⟩
theorem setUp_fold (kd : KeyKind prog w κ) (W : WalksS prog w A.in1 I fp wr G n P St) (hS : S ∉ fp) (ks : List κ) (hn : ks.length = n) (hb : n + 1 < scanBound)
    (hv : ∀ i v, P i v → ∃ k, ks[i]? = some k ∧ kd.is k v = true ∧ v.scannable = true) (m : Nat) : ∀ (i : Nat) (s : Shared), i + m = n → St i s → SetUp prog w kd S ks i s →
      (∀ s', Moved (S :: wr) G s s' → SetUp prog w kd S ks n s' → R (.ok (.ret .none)) s') → codeAny (model prog w) A (.builtin "set.update.loop" ⟨[.ref S, .ref I], []⟩) R s := by
  have nw : S ∉ wr := fun z => hS (W.sub _ z)
  have up : ∀ b ∈ wr, b ∈ S :: wr := fun b z => List.mem_cons_of_mem _ z
  induction m with
  | zero =>
    intro i s e st u k
    obtain rfl : i = n := e
    refine codeAny_builtin PyProof.Rows.F.entry_set_update_loop ?_; rw [Around.under_plainId PyProof.Rows.F.plain_set_update_loop _]
    show wpAny _ A.in1 (pyNext (.ref I) >>= _) _ _ _
    exact wpAny_bind (W.done s _ _ st fun s' mv => (show wpAny _ A.in1 (ret Value.none) _ _ s' from wpAny_pure (k s' (mv.mono up) (setUp_keep u fun o z => mv.heap S o nw z))))
  | succ m ih =>
    intro i s e st u k
    have lt : i < n := by omega
    refine codeAny_builtin PyProof.Rows.F.entry_set_update_loop ?_; rw [Around.under_plainId PyProof.Rows.F.plain_set_update_loop _]
    show wpAny _ A.in1 (pyNext (.ref I) >>= _) _ _ _
    refine wpAny_bind (W.item i s _ _ lt st fun v s' hP st' mv => ?_)
    obtain ⟨c, hc, hk, hs⟩ := hv i v hP
    have u' := setUp_keep u (s' := s') fun o z => mv.heap S o nw z
    show wpAny _ A.in1 (holding [v] (setAdd S v) >>= _) _ _ s'
    refine wpAny_bind (wpAny_holding ?_); unfold setAdd; refine wpAny_holding (wpAny_bind (kd.pyHash hk ?_))
    have room : unl ks i + 1 < scanBound := Nat.lt_of_le_of_lt (Nat.succ_le_succ (unl_le ks i)) (Nat.lt_of_le_of_lt (Nat.succ_le_of_lt lt) (Nat.lt_of_succ_lt hb))
    refine wpAny_setAddHashed_of (s := { s' with toks := s'.toks + 1 }) hk hs u' room fun h' sb hS2 => ?_
    have nx : SetUp prog w kd S ks (i + 1) { s' with heap := h' } := by
      refine PyProof.Rows.SetOf_congr hS2 (fun q => ?_) ?_
      · have ht : ks.take (i + 1) = ks.take i ++ [c] := by
          rw [List.take_add_one, hc]
          rfl
        rw [ht]
        by_cases z1 : q ∈ ks.take i
        · simp [z1]
        · simp [z1]
      · show _ = (match ks[i]? with
          | some k => if k ∈ ks.take i then unl ks i else unl ks i + 1
          | none => unl ks i)
        rw [hc]
        simp only [decide_eq_true_eq]
    refine wpAny_pure ⟨plainId_quiet PyProof.Rows.F.plain_set_update_loop _, ih (i + 1) _ (by omega) (W.frame _ s' _ _ st' (Nat.le_succ _) fun b hb' o z => (sb.2 b (fun y => hS (y ▸ hb'))).trans z) nx fun s2 mv2 u2 => k s2 (Moved.trans W.gtrans ((mv.mono up).then_heap (Nat.le_succ _) fun b o hb' z => (sb.2 b (fun y => hb' (y ▸ List.mem_cons_self))).trans z) mv2) u2⟩
end
section
variable {prog : Program} {w : World} {A : Around} {E : Value → Shared → Prop} {s : Shared} {κ : Type} [DecidableEq κ]
abbrev nuS (hp : Heap) (led : Bool) : Heap := hp.push { cls := .type "set", dict := none, data := .set #[] 0 (.fresh 0 0 led) }
/-- set(xs), xs a list of things of one kind -/
theorem call_setL (kd : KeyKind prog w κ) {l : Addr} {its : Array Value} (ks : List κ) {Q : Value → Shared → Prop} (hh : A.handled = none) (hl : s.heap.IsList l its) (hn : ks.length = its.size) (hb : its.size + 1 < scanBound)
    (hv : ∀ (i : Nat) (v : Value), its[i]? = some v → ∃ k, ks[i]? = some k ∧ kd.is k v = true ∧ v.scannable = true)
    (h : ∀ (hp : Heap) (tk : Nat), hp.SetOf kd s.heap.objs.size (fun k => decide (k ∈ ks)) (sizeU ks) → (∀ b o, b < s.heap.objs.size → s.heap.get? b = some o → hp.get? b = some o) → Q (.ref s.heap.objs.size) { s with heap := hp, toks := tk }) :
    wpAny (model prog w) A (call (.type "set") [.ref l]) Q E s := by
  obtain ⟨c, tl, hmro⟩ := PySem.F.called_set.mro; have hmade := PySem.F.called_set.made; have hsub := PySem.F.called_set.sub
  refine wpAny_call (codeAny_of_tree ?_); show wpAny _ _ (callAny (.type "set") _) _ _ _
  refine wpAny_pure ⟨Code.quiet_builtin _ (by decide +kernel), codeAny_builtin PySem.F.entry_type_call ?_⟩; rw [Around.under_plain (weight_type_call_type "set" [.ref l] []) rfl]
  have h1 := PySem.F.called_set.notType; have h2 := PySem.F.called_set.canCreate; have hct := PySem.F.typeCall_set_1 (.ref l)
  repeat (any_goals (first | assumption | wp_step))
  refine codeAny_mono (code_set_new_1 (.ref l) (E := E) (Q₁ := fun ob s1 => ∃ led : Bool, ob = .ref s.heap.objs.size ∧ s1 = { s with heap := nuS s.heap led }) fun led => ⟨led, rfl, rfl⟩) fun r s1 hr => ?_
  cases r with
  | error e => exact hr
  | ok fl => cases fl with
    | ret ob =>
      obtain ⟨led, rfl, rfl⟩ := hr
      have gS : (nuS s.heap led).get? s.heap.objs.size = some { cls := .type "set", dict := none, data := .set #[] 0 (.fresh 0 0 led) } := Heap.get?_push_size _ rfl
      have tS : Shared.TypeIs { s with heap := nuS s.heap led } (.ref s.heap.objs.size) "set" := ⟨_, gS, rfl⟩
      have hli := PySem.F.called_set.init.lookup; have hbi := PySem.F.called_set.init.bind (.ref s.heap.objs.size)
      repeat (any_goals (first | assumption | wp_step))
      refine codeAny_mono (codeAny_call_builtin (R := wants (fun r s2 => r = .none ∧ ∃ hp tk, s2 = { s with heap := hp, toks := tk } ∧ hp.SetOf kd s.heap.objs.size (fun k => decide (k ∈ ks)) (sizeU ks) ∧ (∀ b o, b < s.heap.objs.size → s.heap.get? b = some o → hp.get? b = some o)) E)
        PySem.F.called_set.init.plain PySem.F.entry_set_init (check_set_init_1 tS ?_)) fun r2 s2 hr2 => ?_
      · obtain ⟨⟨oc, od, dt, sl⟩, hol, hcl, nl, hdl⟩ := hl
        simp only at hcl hdl; subst hcl hdl
        have hol2 : (nuS s.heap led).get? l = some { cls := .type "list", dict := od, data := .seq its nl, slots := sl } := Heap.get?_push_of_some _ hol
        have q1 := PySem.F.sub_list_set; have q2 := PySem.F.sub_list_frozenset; have q3 : (Value.type "list" == Value.type "dict") = false := by decide
        have hl1 : (nuS s.heap led).IsList l its := ⟨_, hol2, rfl, nl, rfl⟩
        unfold Builtin.«set.__init__» noKeywords Builtin.Frozenset.updateFrom; generalize hPI : pyIter = PI
        wp_walk
        subst hPI; refine wpAny_pyIter_list hl1 ?_; refine wpAny_bind (wpAny_runValue ?_)
        have lS : l < s.heap.objs.size := Heap.lt_size hol
        have sz : (nuS s.heap led).objs.size = s.heap.objs.size + 1 := Heap.size_push ..
        have nI : l ≠ (nuS s.heap led).objs.size := by rw [sz]; exact Nat.ne_of_lt (Nat.lt_succ_of_lt lS)
        have nS : s.heap.objs.size ∉ [(nuS s.heap led).objs.size, l] := by rw [sz]; exact fun z => (List.mem_cons.mp z).elim (fun y => absurd y (Nat.ne_of_lt (Nat.lt_succ_self _))) fun y => absurd (List.mem_singleton.mp y) (Nat.ne_of_gt lS)
        refine setUp_fold kd (Walks.list (show A.in1.in1.in1.handled = none by simp [hh]) _ l nI its).toS nS ks hn hb hv its.size 0 _ (Nat.zero_add _) ⟨⟨_, Heap.get?_push_size _ rfl, rfl, rfl⟩, hl1.push _⟩ ?_ fun s3 mv u3 => ?_
        · exact PyProof.Rows.SetOf_congr ((PyProof.Rows.setObjOf_fresh (knd := kd) led).setOf (Heap.get?_push_of_some _ gS) (by unfold scanBound; omega)) (fun k => by simp) rfl
        · obtain ⟨hp, g3, d3, t3, o3⟩ := s3
          obtain rfl : g3 = s.gens := mv.gens; obtain rfl : d3 = s.drawn := mv.drawn; obtain rfl : o3 = s.os := mv.os
          show wpAny _ _ _ _ _ _; refine wpAny_pure ?_; show wpAny _ _ (ret Value.none) _ _ _
          refine wpAny_pure ⟨rfl, hp, t3, rfl, ?_, fun b o hb' z => mv.heap b o (by rw [sz]; exact fun z => (List.mem_cons.mp z).elim (fun y => absurd y (Nat.ne_of_lt hb')) fun y => absurd (List.mem_singleton.mp y) (Nat.ne_of_lt (Nat.lt_succ_of_lt hb'))) (Heap.get?_push_of_some _ (Heap.get?_push_of_some _ z))⟩
          refine PyProof.Rows.SetOf_congr u3 (fun k => ?_) (by unfold sizeU; rw [hn])
          rw [← hn, List.take_length]
      · cases r2 with
        | error e => exact hr2
        | ok f2 => cases f2 with
          | ret r =>
            obtain ⟨rfl, hp, tk, rfl, a1, a2⟩ := hr2; repeat (any_goals (first | assumption | wp_step))
            exact h _ _ a1 a2
          | _ => exact hr2.elim
    | _ => exact hr.elim
end
end Sx

set_option Elab.async false
set_option linter.all false
set_option maxRecDepth 100000
set_option maxHeartbeats 1000000
namespace Sx
open PySem PySem.Spec PyProof.Rows L2
open Evl (Ex)
section
variable {X : Cx} {a : Expr} {ta : TE} {ma : En → Option D} {p p2 q pos : Pos}
def tLenSetT (K : PySem.W.Frag) (ta : TE) : TE := fun σ H Q => ta σ H fun x H1 => ∃ (l : Addr) (ss : List Str), x = V.ref l ∧ SqL K H1 l (ss.map V.str) ∧ ss.length ≤ 4000 ∧ Q (.int (sizeU ss : Nat)) H1
theorem txts_at : ∀ {us : List Value} {ss : List Str}, Vals (ss.map V.str) us → ∀ (i : Nat) (v : Value), us[i]? = some v → ∃ k t, ss[i]? = some k ∧ v = .str k t
  | _, [], h, i, v, e => by cases h; simp at e
  | _, s :: ss, h, 0, v, e => by
    cases h with
    | cons h1 h2 =>
      obtain ⟨t, rfl⟩ := h1
      simp at e
      exact ⟨s, t, rfl, e.symm⟩
  | _, s :: ss, h, i + 1, v, e => by
    cases h with
    | cons h1 h2 =>
      obtain ⟨k, t, e1, e2⟩ := txts_at h2 i v (by simpa using e)
      exact ⟨k, t, by simpa using e1, e2⟩
theorem pe_lenSetT (hc : X.calm = true) (hg : Gl X "len") (hm : X.mg "len" = none) (hg2 : Gl X "set") (hm2 : X.mg "set" = none) (ha : PE X a ta) (na : starEach [a] X.env = (false, eval a X.env) :: starEach [] X.env := by rfl) :
    PE X (.Call (.Name "len" p) [.Call (.Name "set" p2) [a] [] q] [] pos) (tLenSetT X.K ta) := by
  refine ⟨fun pins s σ H Q I h => Call_ (ld_blt I hg hm PySem.boot_len (PyProof.Rows.callWith_builtin1 (PyProof.Rows.args_cons (Call_ (ld_blt I hg2 hm2 PyProof.Rows.boot_set (PyProof.Rows.callWith_type1 (PyProof.Rows.args_cons (thn (ha.run pins s σ H _ I h) fun v s1 ⟨x, H1, I1, r1, q1⟩ => PyProof.Rows.args_nil ?_) na) na rfl))) rfl) rfl rfl))⟩
  obtain ⟨l, ss, rfl, hq, hl, q1⟩ := q1
  cases r1
  obtain ⟨its, r, pl, hz⟩ := I1.list hq
  have sz : ss.length = its.toArray.size := by rw [List.size_toArray, ← r.length, List.length_map]
  refine call_setL (PySem.strKind X.prog X.w) ss (I1.ok.hd hc) pl.isList sz (by rw [← sz]; unfold scanBound; omega) (fun i v e => ?_) fun hp tk hS hk => PyProof.Rows.args_nil ?_
  · obtain ⟨k, t, e1, rfl⟩ := txts_at r i v (by simpa using e)
    exact ⟨k, e1, strKind_is _ _ _ _, rfl⟩
  · obtain ⟨o, es, ep, t, ho, hex, hd, _, _, _, hf, hn⟩ := hS
    have I2 : Inv X pins σ H1 { s1 with heap := hp, toks := tk } := I1.kept fun b o e => hk b o (Heap.lt_size e) e
    have := unl_le ss ss.length
    exact call_len_set ho hex hd hf (by rw [hn]; unfold sizeU; omega) ⟨.int (sizeU ss : Nat), H1, I2.tok _, ⟨_, by rw [hn]⟩, q1⟩
@[simp] def txtsOf (d : D) : Option (List Str) := match d with
  | .lst ds => allStrs ds
  | _ => none
@[simp] def lenSetT (d : D) : Option D := (txtsOf d).bind fun ss => if ss.length ≤ 4000 then some (.int (sizeU ss : Nat)) else none
theorem de_lenSetT (hc : X.calm = true) (hm : X.mg "len" = none) (hm2 : X.mg "set" = none) (ha : DT X a ma) (hg : Gl X "len" := by rfl) (hg2 : Gl X "set" := by rfl) (na : starEach [a] X.env = (false, eval a X.env) :: starEach [] X.env := by rfl) :
    DE X (.Call (.Name "len" p) [.Call (.Name "set" p2) [a] [] q] [] pos) (mUn lenSetT ma) := ⟨_, pe_lenSetT hc hg hm hg2 hm2 ha.pe na, fun hid O B H σ E d re hm Q qq => by
  obtain ⟨x, h1, hm⟩ := bind_some hm
  obtain ⟨ss, h2, hm⟩ := bind_some hm
  obtain ⟨h3, rfl⟩ := ite_some hm
  refine ha.si hid O B H σ E _ re h1 _ fun v H1 e1 r1 => ?_
  unfold txtsOf at h2
  split at h2
  · rename_i ds
    obtain ⟨p, xs, rfl, h4, h5⟩ := r1.seq
    rw [allStrs_some h2] at h5
    rw [RpL.strs_of h5] at h4
    exact ⟨p, ss, rfl, h4, h3, qq _ H1 e1 (.int _)⟩
  · cases h2⟩
end
end Sx

set_option Elab.async false
set_option linter.all false
set_option maxRecDepth 100000
set_option maxHeartbeats 1000000
namespace Sx
open PySem PySem.Spec PyProof.Rows L2
open Evl (Ex)
/-- y = {.. for ..} on one row, y a plain local -/
theorem ps_setDc {X : Cx} {i : Nat} {y : Str} {py : Pos} {kx vx tg iter : Expr} {ifs : List Expr} {scope : Scope} {own : List (Str × Nat)} {pos spos : Pos} {wi : TI} {g : TG} {tt : TT} {tk tv : TE} (hc : X.calm = true) (hN : X.N.Nodup) (hy : X.N[i]? = some y) (hyl : X.env.scope.names.lookup y = some .local)
    (hsw : swapsWith (.DictComp kx vx [⟨tg, iter, ifs, 0⟩] scope pos) (some (.Name y py)) spos.line X.env = pure true) (hi : PI X tg iter wi) (ok : BlkOk X.N X.env.scope scope own)
    (hg : ∀ (s : Shared) (H : Hp) (C : Addr) (cl : List (Str × Addr)) (fp : List Addr), PG (X.blk s H scope (compEnvC scope cl C X.env) fp) tg g) (ht : ∀ (s : Shared) (H : Hp) (C : Addr) (cl : List (Str × Addr)) (fp : List Addr), PTs (X.blk s H scope (compEnvC scope cl C X.env) fp) ifs tt)
    (hk : ∀ (s : Shared) (H : Hp) (C : Addr) (cl : List (Str × Addr)) (fp : List Addr), PE (X.blk s H scope (compEnvC scope cl C X.env) fp) kx tk) (he : ∀ (s : Shared) (H : Hp) (C : Addr) (cl : List (Str × Addr)) (fp : List Addr), PE (X.blk s H scope (compEnvC scope cl C X.env) fp) vx tv) (hs : ∀ x, foldedSetIterable iter X.env x = pure x := by intro _; rfl) :
    PS X (.Assign [.Name y py] (.DictComp kx vx [⟨tg, iter, ifs, 0⟩] scope pos) spos) (tAsg (tDc wi g tt tk tv (own.map (·.2))) (gName i)) := ⟨fun pins s σ H D I h => by
  rw [exec_Assign_Name_used _ _ _ _ hsw]; refine wpAny_bind (wpAny_standAt (wpAny_bind ?_))
  show wpAny _ X.A (do let _ ← comprehension (.DictComp kx vx [⟨tg, iter, ifs, 0⟩] scope pos) scope X.env (firstIterPos [⟨tg, iter, ifs, 0⟩] pos) newDict false (eval iter X.env) (some (assign (.Name y py) X.env))) _ _ s
  have h' : tDc wi g tt tk tv (own.map (·.2)) σ H (fun x H1 => gName i x σ H1 D.nx) := h
  refine wpAny_bind (thn (dc_core (Qf := fun _ s2 => SP X pins D .next s2) hc hN I hi ok hg ht hk he hs h' fun L C s2 m H2 J q hn ⟨f0, f1, f2, f3, f4, f5⟩ => ?_) fun _ s2 z => wpAny_pure (wpAny_pure z))
  show wpAny _ _ (assign (.Name y py) X.env (.ref L)) _ _ _
  refine wpAny_assign_Name (store_ok2 (v := V.ref L) J hN hy (.inl hyl) rfl (fun s3 J3 ⟨a, sb, ha⟩ => ?_) (.inr hyl))
  exact ⟨m, hn.sameBut sb (ha.elim (fun z => by rw [z]; exact f1) fun z e => f4 y a z e.symm), fun h3 sb3 => ⟨_, H2, J3.turned (t' := s3.toks) (fun b o hb e => (sb3.2 b hb).trans e) f0 f1 f3 f4 f5, q⟩⟩⟩
theorem sw_trueD {kx vx : Expr} {gs : List Comprehension} {scope : Scope} {pos py : Pos} {y : Str} {l : Nat} {env : Env} (hk : env.scope.kind = .function) (hy : env.scope.names.lookup y = some .local) (hl : (py.line == pos.line) = true)
    (ha : (scope.names.any fun (n, k) => n == y && (k == .local || k == .cell)) = false) : swapsWith (.DictComp kx vx gs scope pos) (some (.Name y py)) l env = pure true := by
  have b1 : env.kindOf y = some .local := hy; have b2 : env.blockKind = .function := by unfold Env.blockKind; rw [hk]; rfl
  unfold swapsWith; simp only [b2, b1, ha, Expr.pos, hl]; rfl
theorem ds_setDc (i : Nat) {X : Cx} {y : Str} {py : Pos} {kx vx tg iter : Expr} {ifs : List Expr} {scope : Scope} {own : List (Str × Nat)} {pos spos : Pos} {js : List Nat} {mi : En → Option (List D)} {mg : En → D → Option En} {mt : En → Option Bool} {mk mv : En → Option D}
    (hc : X.calm = true) (hN : X.N.Nodup) (hi : DIT X tg iter mi) (ok : BlkOk X.N X.env.scope scope own) (hjs : ∀ j ∈ js, j ∈ own.map (·.2))
    (hg : ∀ (s : Shared) (H : Hp) (C : Addr) (cl : List (Str × Addr)) (fp : List Addr), DG (X.blk s H scope (compEnvC scope cl C X.env) fp) tg js mg) (ht : ∀ (s : Shared) (H : Hp) (C : Addr) (cl : List (Str × Addr)) (fp : List Addr), DTs (X.blk s H scope (compEnvC scope cl C X.env) fp) ifs mt)
    (hk : ∀ (s : Shared) (H : Hp) (C : Addr) (cl : List (Str × Addr)) (fp : List Addr), DE (X.blk s H scope (compEnvC scope cl C X.env) fp) kx mk) (he : ∀ (s : Shared) (H : Hp) (C : Addr) (cl : List (Str × Addr)) (fp : List Addr), DE (X.blk s H scope (compEnvC scope cl C X.env) fp) vx mv)
    (hsw : swapsWith (.DictComp kx vx [⟨tg, iter, ifs, 0⟩] scope pos) (some (.Name y py)) spos.line X.env = pure true) (hy : X.N[i]? = some y := by rfl) (hyl : X.env.scope.names.lookup y = some .local := by rfl) (hs : ∀ x, foldedSetIterable iter X.env x = pure x := by intro _; rfl) :
    DS X (.Assign [.Name y py] (.DictComp kx vx [⟨tg, iter, ifs, 0⟩] scope pos) spos) (mSet i (mDc (own.map (·.2)) mi mg mt mk mv)) :=
  ⟨_, ps_setDc (wi := tITq X.K mi) (g := tGq X.K js mg) (tt := tBq X.K mt) (tk := tE X.K mk) (tv := tE X.K mv) hc hN hy hyl hsw hi.pi ok (fun s H C cl fp => (hg s H C cl fp).pg) (fun s H C cl fp => (ht s H C cl fp).pt) (fun s H C cl fp => (hk s H C cl fp).pe) (fun s H C cl fp => (he s H C cl fp).pe) hs, fun hid O B H σ E o Dn r hm k => by
    obtain ⟨d, h1, rfl⟩ := map_some hm
    exact se_dc hi.si (hg X.s_0 X.H_0 0 [] []).si hjs (ht X.s_0 X.H_0 0 [] []).si (hk X.s_0 X.H_0 0 [] []).si (he X.s_0 X.H_0 0 [] []).si hid O B H σ E d r h1 _ fun v H1 e1 r1 => k O _ H1 ((r.grow e1).put i r1)⟩
section
variable {X : Cx} {x : Str} {a b c : Expr} {m mk : En → Option D} {pos p : Pos}
/-- self.f, f not owned -/
@[simp] def mFldE (i : Nat) (c f : Str) : En → Option D := fun E => match E[i]? with
  | some (.rt (.rf n)) => (match E[n]? with
    | some (.nd (.obj _ y fs rs)) => if y = c then (atK fs rs f).bind closed else none
    | _ => none)
  | _ => none
theorem de_fldO (i : Nat) (c : Str) {f : Str} (hc : Cls X.K (He.ga X.K c)) (ha : NoAttr X.K (He.ga X.K c) f) (hN : X.N[i]? = some x := by rfl) (hv : Vis X.env.scope x := by first | exact Or.inl rfl | exact Or.inr (Or.inl rfl) | exact Or.inr (Or.inr rfl)) (hd : (x == ("__debug__" : Str)) = false := by decide) (hcd : (x == ("__classdict__" : Str)) = false := by decide)
    (hb : attributeBase (.Name x p) f X.env (eval (.Name x p) X.env) = eval (.Name x p) X.env := by rfl) : DE X (.Attribute (.Name x p) f pos) (mFldE i c f) := ⟨_, pe_fld (pe_var hN hv hd hcd) hb, fun hid O B H σ E d r hm Q q => by
  unfold mFldE at hm
  split at hm
  · rename_i n hi
    split at hm
    · rename_i q0 y fs rs hn
      obtain ⟨hy, hm'⟩ := ite_someL hm
      obtain ⟨t, k1, k2⟩ := bind_some hm'
      subst hy
      obtain ⟨θ, ω, N⟩ := r.nod
      obtain ⟨w, g1, g2⟩ := N.rt i _ hi
      cases g2
      obtain ⟨dx, xs, _, h1, h2, h3⟩ := (N.nd n _ hn).2
      obtain ⟨v, g4, g5⟩ := h3.atK k1
      exact ⟨_, g1, θ n, _, dx, _, v, rfl, h1, hc, ha, by rw [lookup_zip]; exact g4, q v H (Ex.refl H) (closed_ok t g5 k2)⟩
    · cases hm
  · cases hm⟩
/-- one of two new lists -/
@[simp] def mIfF (c : En → Option Bool) (a b : En → Option (List D)) : En → Option (List D) := fun E => (c E).bind fun k => if k = true then a E else b E
theorem df_if {mc : En → Option Bool} {ma mb : En → Option (List D)} (hc : DB X c mc) (ha : DF X a ma) (hb : DF X b mb) : DF X (.IfExp c a b pos) (mIfF mc ma mb) := ⟨_, pe_ifExp hc.pt ha.pe hb.pe, fun hid O B H σ E d re hm Q q => by
  obtain ⟨k, h1, hm⟩ := bind_some hm
  refine hc.si hid O B H σ E k re h1 _ fun H1 e1 => ?_
  cases k with
  | true =>
    rw [if_pos rfl] at hm ⊢
    exact ha.si hid O B H1 σ E d (re.grow e1) hm Q fun p xs H2 hp e2 hx rx => q p xs H2 (Evl.fresh_back e1 hp) (e1.trans e2) hx rx
  | false =>
    rw [if_neg Bool.false_ne_true] at hm ⊢
    exact hb.si hid O B H1 σ E d (re.grow e1) hm Q fun p xs H2 hp e2 hx rx => q p xs H2 (Evl.fresh_back e1 hp) (e1.trans e2) hx rx⟩
end
open Classical in
/-- what an __init__ does, wherever the object lies -/
noncomputable def anyA (f : Addr → Option RX) : Option RX := if h : ∃ r, ∀ a, f a = some r then some h.choose else none
theorem anyA_eq {f : Addr → Option RX} {r : RX} (h : ∀ a, f a = some r) : anyA f = some r := by
  have h' : ∃ r, ∀ a, f a = some r := ⟨r, h⟩
  unfold anyA
  rw [dif_pos h']
  have := h'.choose_spec 0
  rw [h 0] at this
  exact this.symm
theorem anyA_at {f : Addr → Option RX} {r : RX} (h : anyA f = some r) (a : Addr) : f a = some r := by
  unfold anyA at h
  by_cases h' : ∃ r, ∀ a, f a = some r
  · rw [dif_pos h'] at h
    cases h
    exact h'.choose_spec a
  · rw [dif_neg h'] at h
    cases h
theorem fn_none {P : Program} {w : World} {K : PySem.W.Frag} {mg : Str → Option Value} {base : Heap} {x : Str} {st : Stmt} {N ps : List Str} {k n : Nat} {f : Addr} {fd : FuncData} (F : FunD K x x (defArgs st) (defBody st) (defScope st) [] [] f fd) (S : FnScope N ps (defScope st)) (hn : ps.length = n) : FnOk P w K mg base CX0 (k + 1) f fd ps (spD K n fun _ => none) := by
  refine F.ok S (fun vs H Q E h => ?_) (fun cdv A outer s H vs Q E hr h => ?_)
  · obtain ⟨_, _, _, _, _, _, h, _⟩ := h
    cases h
  · obtain ⟨_, _, _, _, _, _, h, _⟩ := h
    cases h
/-- a small table of classes -/
abbrev ktab (l : List (Str × Bool)) (x : Str) : Option Bool := l.lookup x
theorem kt_nil {P : Str → Bool → Prop} : ∀ y b, ktab [] y = some b → P y b := fun _ _ h => by cases h
theorem kt_cons {P : Str → Bool → Prop} {x : Str} {b : Bool} {l : List (Str × Bool)} (h : P x b) (t : ∀ y c, ktab l y = some c → P y c) : ∀ y c, ktab ((x, b) :: l) y = some c → P y c := fun y c e => by
  unfold ktab at e
  rw [List.lookup_cons] at e
  by_cases hy : y = x
  · subst hy
    simp at e
    rw [← e]
    exact h
  · rw [show (y == x) = false from beq_eq_false_iff_ne.mpr hy] at e
    exact t y c e
end Sx

set_option Elab.async false
set_option linter.all false
set_option maxRecDepth 100000
set_option maxHeartbeats 1000000
namespace Sx
open PySem PySem.Spec PyProof.Rows L2
/-! ### facts for the head, beyond the library's -/
inductive FaX where
  | excc (x : Str) | kit (x y : Str) (b : Bool) | kitb (x : Str) (T : String) (b : Bool) | tup (x : Str) (ss : List Str)
def FaX.ok (K : PySem.W.Frag) : FaX → Bool
  | .excc x => He.eqO (PySem.W.findIn K (.ref (He.ga K x)) "__getattribute__") (some (some (.builtin "BaseException.__getattribute__"))) && (He.eqO (PySem.W.findIn K (.ref (He.ga K x)) "__getattr__") (some none) && (decide (PySem.W.subIn K (.ref (He.ga K x)) (.type "BaseException") = some true) &&
      (PySem.W.hasDictIn K (He.ga K x) && (He.eqO (PySem.W.findIn K (.ref (He.ga K x)) "__class__") (some (some (.builtin "object.__class__"))) && (He.eqO (PySem.W.specialIn K (.builtin "object.__class__") "__get__") (some (some (.builtin "getset_descriptor.__get__"))) &&
        (decide (PySem.W.takesIn K (.builtin "object.__class__") = some true) && decide (PySem.W.mroIn K (He.ga K x) (.type "object") = some true)))))))
  | .kit x y b => decide (PySem.W.kitOne K (.ref (He.ga K x)) (.ref (He.ga K y)) = some b)
  | .kitb x T b => decide (PySem.W.kitOne K (.ref (He.ga K x)) (.type T) = some b)
  | .tup x ss => He.tupB K x (ss.map .str)
def exOk (l : List FaX) (K : PySem.W.Frag) : Bool := l.all fun f => f.ok K
section
variable {K : PySem.W.Frag} {l : List FaX} {mg : Str → Option Value}
theorem ex_at (h : exOk l K = true) (i : Nat) {f : FaX} (e : l[i]? = some f) : f.ok K = true := List.all_eq_true.mp h f (List.mem_of_getElem? e)
theorem excc_ok {x : Str} (h : (FaX.excc x).ok K = true) : ExcC K (He.ga K x) := by
  obtain ⟨h1, h⟩ := He.ba h
  obtain ⟨h2, h⟩ := He.ba h
  obtain ⟨h3, h⟩ := He.ba h
  obtain ⟨h4, h⟩ := He.ba h
  obtain ⟨h5, h⟩ := He.ba h
  obtain ⟨h6, h⟩ := He.ba h
  obtain ⟨h7, h8⟩ := He.ba h
  exact ⟨He.eqO_ok h1, He.eqO_ok h2, of_decide_eq_true h3, h4, He.eqO_ok h5, He.eqO_ok h6, of_decide_eq_true h7, of_decide_eq_true h8⟩
theorem kit_ok {x y : Str} {b : Bool} (h : (FaX.kit x y b).ok K = true) : PySem.W.kitOne K (.ref (He.ga K x)) (.ref (He.ga K y)) = some b := of_decide_eq_true h
theorem kitb_ok {x : Str} {T : String} {b : Bool} (h : (FaX.kitb x T b).ok K = true) : PySem.W.kitOne K (.ref (He.ga K x)) (.type T) = some b := of_decide_eq_true h
theorem dv_strs (K : PySem.W.Frag) : ∀ ss : List Str, (ss.map He.Dv.str).map (He.Dv.v K) = ss.map V.str
  | [] => rfl
  | s :: ss => by
    rw [List.map_cons, List.map_cons, dv_strs K ss]
    rfl
theorem tup_ok {x : Str} {ss : List Str} (g : mg x = some (.ref (He.ga K x))) (h : (FaX.tup x ss).ok K = true) : CtS K mg x ss := ⟨g, fun H => by
  have := He.tupB_ok (show He.tupB K x (ss.map .str) = true from h) H
  rwa [dv_strs] at this⟩
theorem exf_ok {x : Str} (g : mg x = some (.ref (He.ga K x))) (h : (He.Fa.exc x).ok K = true) : ExF K mg x := by
  obtain ⟨h1, h2, h3, h4⟩ := He.exc_ok h
  exact ⟨g, h1, h2, h3, h4⟩
end
end Sx

set_option Elab.async false
set_option linter.all false
set_option maxRecDepth 100000
set_option maxHeartbeats 2000000
namespace Sx
open PySem L2
theorem mulOk_l {i j : Int} (h : -18446744073709551616 < i ∧ i < 18446744073709551616) : mulOk i j = true := by
  unfold mulOk
  rw [Bool.or_eq_true_iff]
  left
  rw [decide_eq_true_eq]
  omega
theorem mulOk_r {i j : Int} (h : -18446744073709551616 < j ∧ j < 18446744073709551616) : mulOk i j = true := by
  unfold mulOk
  rw [Bool.or_eq_true_iff]
  right
  rw [decide_eq_true_eq]
  omega
theorem divOk_c {i j : Int} (h : 0 < j ∧ j < 1073741824) : divOk i j = true := by
  unfold divOk
  rw [decide_eq_true h.1, decide_eq_true h.2]
  rfl
theorem powOk_c {i j : Int} (h : 0 ≤ j ∧ j ≤ 1000000) (h2 : i.natAbs < 18446744073709551616) : powOk i j = true := by
  unfold powOk
  rw [decide_eq_true h.1, decide_eq_true h.2, decide_eq_true h2]
  rfl
theorem mul1 (a : Int) : mulOk 48271 a = true := mulOk_l (by omega)
theorem runFor_inv {mg : En → D → Option En} {mb : En → Option Out} (I : Nat → En → Prop) : ∀ (ds : List D) (i : Nat) (E : En), I i E →
    (∀ (j : Nat) (d : D) (E : En), ds[j]? = some d → I (i + j) E → ∃ E1 E2, mg E d = some E1 ∧ (mb E1 = some (.nx E2) ∨ mb E1 = some (.ct E2)) ∧ I (i + j + 1) E2) → ∃ E', runFor mg mb ds E = some (.nx E') ∧ I (i + ds.length) E'
  | [], i, E, h, _ => ⟨E, rfl, h⟩
  | d :: ds, i, E, h, hs => by
    obtain ⟨E1, E2, h1, h2, h3⟩ := hs 0 d E rfl h
    obtain ⟨E', h4, h5⟩ := runFor_inv (mg := mg) (mb := mb) I ds (i + 1) E2 h3 fun j d' E' hj hI => by
      have e : i + 1 + j = i + (j + 1) := by omega
      rw [e] at hI ⊢
      exact hs (j + 1) d' E' (by simpa using hj) hI
    refine ⟨E', ?_, by rw [List.length_cons, show i + (ds.length + 1) = i + 1 + ds.length by omega]; exact h5⟩
    show (mg E d).bind _ = _
    rw [h1]
    show (mb E1).bind _ = _
    rcases h2 with h2 | h2 <;> rw [h2] <;> exact h4
/-- each turn goes on or gives back -/
theorem runFor_find {mg : En → D → Option En} {mb : En → Option Out} (I : Nat → En → Prop) (R : Nat → D → Prop) : ∀ (ds : List D) (i : Nat) (E : En), I i E →
    (∀ (j : Nat) (d : D) (E : En), ds[j]? = some d → I (i + j) E → ∃ E1, mg E d = some E1 ∧ ((∃ E2, (mb E1 = some (.nx E2) ∨ mb E1 = some (.ct E2)) ∧ I (i + j + 1) E2) ∨ ∃ r, mb E1 = some (.rt r) ∧ R (i + j) r)) →
    (∃ E', runFor mg mb ds E = some (.nx E') ∧ I (i + ds.length) E') ∨ ∃ j r, runFor mg mb ds E = some (.rt r) ∧ j < ds.length ∧ R (i + j) r
  | [], i, E, h, _ => .inl ⟨E, rfl, h⟩
  | d :: ds, i, E, h, hs => by
    obtain ⟨E1, h1, ⟨E2, h2, h3⟩ | ⟨r, h2, h3⟩⟩ := hs 0 d E rfl h
    · have run : runFor mg mb (d :: ds) E = runFor mg mb ds E2 := by
        show (mg E d).bind _ = _
        rw [h1]
        show (mb E1).bind _ = _
        rcases h2 with h2 | h2 <;> rw [h2] <;> rfl
      rw [run]
      rcases runFor_find (mg := mg) (mb := mb) I R ds (i + 1) E2 h3 fun j d' E' hj hI => by
        have e : i + 1 + j = i + (j + 1) := by omega
        rw [e] at hI ⊢
        exact hs (j + 1) d' E' (by simpa using hj) hI with ⟨E', h4, h5⟩ | ⟨j, r, h4, h5, h6⟩
      · exact .inl ⟨E', h4, by rw [List.length_cons, show i + (ds.length + 1) = i + 1 + ds.length by omega]; exact h5⟩
      · exact .inr ⟨j + 1, r, h4, by rw [List.length_cons]; omega, by rw [show i + (j + 1) = i + 1 + j by omega]; exact h6⟩
    · refine .inr ⟨0, r, ?_, by rw [List.length_cons]; omega, h3⟩
      show (mg E d).bind _ = _
      rw [h1]
      show (mb E1).bind _ = _
      rw [h2]
      rfl
theorem runComp_enc {α β : Type} {mg : En → D → Option En} {mt : En → Option Bool} {me : En → Option D} {E0 : En} (f : α → D) (g : β → D) (P : α → β → Prop) : ∀ (xs : List α),
    (∀ x ∈ xs, ∃ E1 y, mg E0 (f x) = some E1 ∧ mt E1 = some true ∧ me E1 = some (g y) ∧ P x y) → ∃ ys : List β, runComp mg mt me E0 (xs.map f) = some (ys.map g) ∧ Paired P xs ys
  | [], _ => ⟨[], rfl, .nil⟩
  | x :: xs, h => by
    obtain ⟨E1, y, h1, h2, h3, h4⟩ := h x (List.mem_cons_self ..)
    obtain ⟨ys, h5, h6⟩ := runComp_enc (mg := mg) (mt := mt) (me := me) (E0 := E0) f g P xs fun z hz => h z (List.mem_cons_of_mem _ hz)
    refine ⟨y :: ys, ?_, .cons h4 h6⟩
    show (mg E0 (f x)).bind _ = _
    rw [h1]
    show (mt E1).bind _ = _
    rw [h2]
    show (if true = true then (me E1).bind (fun r => (runComp mg mt me E0 (xs.map f)).map (r :: ·)) else runComp mg mt me E0 (xs.map f)) = _
    rw [if_pos rfl, h3]
    show (runComp mg mt me E0 (xs.map f)).map (fun rs => g y :: rs) = _
    rw [h5]
    rfl
theorem runComp_filt {α β : Type} {mg : En → D → Option En} {mt : En → Option Bool} {me : En → Option D} {E0 : En} (f : α → D) (g : α → D) (p : α → Bool) : ∀ (xs : List α),
    (∀ x ∈ xs, ∃ E1, mg E0 (f x) = some E1 ∧ mt E1 = some (p x) ∧ (p x = true → me E1 = some (g x))) → runComp mg mt me E0 (xs.map f) = some ((xs.filter p).map g)
  | [], _ => rfl
  | x :: xs, h => by
    obtain ⟨E1, h1, h2, h3⟩ := h x (List.mem_cons_self ..)
    have h5 := runComp_filt (β := β) (mg := mg) (mt := mt) (me := me) (E0 := E0) f g p xs fun z hz => h z (List.mem_cons_of_mem _ hz)
    show (mg E0 (f x)).bind _ = _
    rw [h1]
    show (mt E1).bind _ = _
    rw [h2]
    show (if p x = true then (me E1).bind (fun r => (runComp mg mt me E0 (xs.map f)).map (r :: ·)) else runComp mg mt me E0 (xs.map f)) = _
    by_cases hp : p x = true
    · rw [if_pos hp, h3 hp, List.filter_cons, if_pos hp]
      show (runComp mg mt me E0 (xs.map f)).map (fun rs => g x :: rs) = _
      rw [h5]
      rfl
    · rw [if_neg hp, List.filter_cons, if_neg hp]
      exact h5
theorem Paired.len {α β : Type} {P : α → β → Prop} : ∀ {xs : List α} {ys : List β}, Paired P xs ys → xs.length = ys.length
  | _, _, .nil => rfl
  | _, _, .cons _ t => congrArg Nat.succ (Paired.len t)
theorem Paired.mem {α β : Type} {P : α → β → Prop} : ∀ {xs : List α} {ys : List β} {y : β}, Paired P xs ys → y ∈ ys → ∃ x ∈ xs, P x y
  | _, _, _, .nil, h => by cases h
  | _, _, y, .cons r t, h => by
    rcases List.mem_cons.mp h with e | e
    · subst e
      exact ⟨_, List.mem_cons_self .., r⟩
    · obtain ⟨x, h1, h2⟩ := Paired.mem t e
      exact ⟨x, List.mem_cons_of_mem _ h1, h2⟩
theorem Paired.at {α β : Type} {P : α → β → Prop} : ∀ {xs : List α} {ys : List β} {i : Nat} {x : α} {y : β}, Paired P xs ys → xs[i]? = some x → ys[i]? = some y → P x y
  | _, _, _, _, _, .nil, h, _ => by simp at h
  | _, _, 0, _, _, .cons r t, h, g => by
    simp at h g
    subst h
    subst g
    exact r
  | _, _, i + 1, _, _, .cons r t, h, g => Paired.at (i := i) t (by simpa using h) (by simpa using g)
theorem atI_nat' {α : Type} {xs : List α} {i : Int} (h0 : 0 ≤ i) (h : i < xs.length) : ∃ x, atI xs i = some x ∧ xs[i.toNat]? = some x := by
  have hl : i.toNat < xs.length := by omega
  refine ⟨xs[i.toNat], ?_, List.getElem?_eq_getElem hl⟩
  unfold atI ixN
  rw [if_pos h0, if_pos h]
  exact List.getElem?_eq_getElem hl
theorem atI_mapD {α : Type} {f : α → D} {xs : List α} {i : Int} (h0 : 0 ≤ i) (h : i < xs.length) : ∃ x, atI (xs.map f) i = some (f x) ∧ xs[i.toNat]? = some x := by
  obtain ⟨x, h1, h2⟩ := atI_nat' h0 h
  exact ⟨x, by rw [atI_map, h1]; rfl, h2⟩
theorem range_at {lo : Int} {n j : Nat} {d : D} (h : (rangeD lo n)[j]? = some d) : d = .int (lo + j) ∧ j < n := by
  have hj : j < n := by
    have := (List.getElem?_eq_some_iff.mp h).1
    rwa [rangeD_len] at this
  rw [rangeD_get hj] at h
  exact ⟨(Option.some.inj h).symm, hj⟩
theorem ints_at {ns : List Int} {j : Nat} {d : D} (h : (ns.map D.int)[j]? = some d) : ∃ c, d = .int c ∧ ns[j]? = some c := by
  rw [List.getElem?_map] at h
  obtain ⟨c, h1, rfl⟩ := map_some h
  exact ⟨c, rfl, h1⟩
theorem map_at {α : Type} {f : α → D} {xs : List α} {j : Nat} {d : D} (h : (xs.map f)[j]? = some d) : ∃ x, d = f x ∧ xs[j]? = some x := by
  rw [List.getElem?_map] at h
  obtain ⟨c, h1, rfl⟩ := map_some h
  exact ⟨c, rfl, h1⟩
end Sx

set_option Elab.async false
set_option linter.all false
set_option maxRecDepth 100000
set_option maxHeartbeats 2000000
namespace Sx
open PySem L2
mutual
def okD : D → Bool
  | .str x => PyData.strOk x
  | .lst ds => okDs ds
  | .tup ds => okDs ds
  | .dct _ _ => false
  | .obj _ _ _ => false
  | .err _ _ => false
  | _ => true
def okDs : List D → Bool
  | [] => true
  | d :: ds => okD d && okDs ds
end
mutual
def depD : D → Nat
  | .lst ds => depDs ds + 1
  | .tup ds => depDs ds + 1
  | .scr _ => 1
  | .dct _ _ => PyData.depth (.dict [])
  | .obj _ _ _ => PyData.depth (.dict [])
  | .err _ _ => PyData.depth (.dict [])
  | _ => 0
def depDs : List D → Nat
  | [] => 0
  | d :: ds => max (depD d) (depDs ds)
end
theorem ints_eqv : ∀ ns : List Int, PyData.eqvAll (ns.map .int) (ns.map .int) = true
  | [] => by rw [List.map_nil, PyData.eqvAll]
  | n :: ns => by rw [List.map_cons, PyData.eqvAll, PyData.eqv, ints_eqv ns]; simp
theorem ints_lay : ∀ ns : List Int, PyData.canLayAll0 (ns.map .int) = true
  | [] => by rw [List.map_nil, PyData.canLayAll0]
  | n :: ns => by rw [List.map_cons, PyData.canLayAll0, PyData.canLay0, ints_lay ns]; rfl
theorem ints_dep : ∀ ns : List Int, PyData.depthAll (ns.map .int) = 0
  | [] => by rw [List.map_nil, PyData.depthAll]
  | n :: ns => by rw [List.map_cons, PyData.depthAll, PyData.depth, ints_dep ns]; rfl
mutual
theorem py_eqv : ∀ d : D, okD d = true → PyData.eqv d.py d.py = true
  | .non, _ => by rw [D.py, PyData.eqv]
  | .bl b, _ => by rw [D.py, PyData.eqv]; simp
  | .int i, _ => by rw [D.py, PyData.eqv]; simp
  | .str x, _ => by rw [D.py, PyData.eqv]; simp
  | .lst ds, h => by rw [okD] at h; rw [D.py, PyData.eqv]; exact pys_eqv ds h
  | .tup ds, h => by rw [okD] at h; rw [D.py, PyData.eqv]; exact pys_eqv ds h
  | .scr ns, _ => by rw [D.py, PyData.eqv]; exact ints_eqv ns
  | .dct _ _, h => by rw [okD] at h; cases h
  | .obj _ _ _, h => by rw [okD] at h; cases h
  | .err _ _, h => by rw [okD] at h; cases h
theorem pys_eqv : ∀ ds : List D, okDs ds = true → PyData.eqvAll (D.pys ds) (D.pys ds) = true
  | [], _ => by rw [D.pys, PyData.eqvAll]
  | d :: ds, h => by
    rw [okDs] at h
    obtain ⟨h1, h2⟩ := Bool.and_eq_true_iff.mp h
    rw [D.pys, PyData.eqvAll, py_eqv d h1, pys_eqv ds h2]
    rfl
end
mutual
theorem py_lay : ∀ d : D, okD d = true → PyData.canLay0 d.py = true
  | .non, _ => by rw [D.py, PyData.canLay0]
  | .bl b, _ => by rw [D.py, PyData.canLay0]
  | .int i, _ => by rw [D.py, PyData.canLay0]
  | .str x, h => by rw [okD] at h; rw [D.py, PyData.canLay0]; exact h
  | .lst ds, h => by rw [okD] at h; rw [D.py, PyData.canLay0]; exact pys_lay ds h
  | .tup ds, h => by rw [okD] at h; rw [D.py, PyData.canLay0]; exact pys_lay ds h
  | .scr ns, _ => by rw [D.py, PyData.canLay0]; exact ints_lay ns
  | .dct _ _, h => by rw [okD] at h; cases h
  | .obj _ _ _, h => by rw [okD] at h; cases h
  | .err _ _, h => by rw [okD] at h; cases h
theorem pys_lay : ∀ ds : List D, okDs ds = true → PyData.canLayAll0 (D.pys ds) = true
  | [], _ => by rw [D.pys, PyData.canLayAll0]
  | d :: ds, h => by
    rw [okDs] at h
    obtain ⟨h1, h2⟩ := Bool.and_eq_true_iff.mp h
    rw [D.pys, PyData.canLayAll0, py_lay d h1, pys_lay ds h2]
    rfl
end
mutual
theorem py_dep : ∀ d : D, PyData.depth d.py = depD d
  | .non => by rw [D.py, PyData.depth]; rfl
  | .bl b => by rw [D.py, PyData.depth]; rfl
  | .int i => by rw [D.py, PyData.depth]; rfl
  | .str x => by rw [D.py, PyData.depth]; rfl
  | .lst ds => by rw [D.py, PyData.depth, depD, pys_dep ds]
  | .tup ds => by rw [D.py, PyData.depth, depD, pys_dep ds]
  | .scr ns => by rw [D.py, PyData.depth, depD, ints_dep ns]
  | .dct _ _ => by rw [D.py, depD]
  | .obj _ _ _ => by rw [D.py, depD]
  | .err _ _ => by rw [D.py, depD]
theorem pys_dep : ∀ ds : List D, PyData.depthAll (D.pys ds) = depDs ds
  | [] => by rw [D.pys, PyData.depthAll, depDs]
  | d :: ds => by rw [D.pys, PyData.depthAll, depDs, py_dep d, pys_dep ds]
end
theorem shaped_of {d : D} (h : okD d = true) (hd : depD d ≤ 64) : SeqAt.shaped d.py = true := by
  unfold SeqAt.shaped
  rw [py_lay d h, py_dep d, decide_eq_true hd]
  rfl
theorem eqB_lst {ds : List D} (h : okDs ds = true) (hd : depDs ds ≤ 60) : eqB (.lst ds) (.lst ds) = some true := by
  have s := shaped_of (d := .lst ds) (by rw [okD]; exact h) (by rw [depD]; omega)
  show (if SeqAt.shaped (D.lst ds).py = true ∧ SeqAt.shaped (D.lst ds).py = true then some (PyData.eqv (D.lst ds).py (D.lst ds).py) else none) = _
  rw [if_pos ⟨s, s⟩, py_eqv]
  rw [okD]
  exact h
theorem okDs_map {α : Type} {f : α → D} : ∀ {xs : List α}, (∀ x ∈ xs, okD (f x) = true) → okDs (xs.map f) = true
  | [], _ => by rw [List.map_nil, okDs]
  | x :: xs, h => by
    rw [List.map_cons, okDs, h x (List.mem_cons_self ..), okDs_map fun y hy => h y (List.mem_cons_of_mem _ hy)]
    rfl
theorem depDs_map {α : Type} {f : α → D} {n : Nat} : ∀ {xs : List α}, (∀ x ∈ xs, depD (f x) ≤ n) → depDs (xs.map f) ≤ n
  | [], _ => by rw [List.map_nil, depDs]; omega
  | x :: xs, h => by
    rw [List.map_cons, depDs]
    have := h x (List.mem_cons_self ..)
    have := depDs_map fun y hy => h y (List.mem_cons_of_mem _ hy)
    omega
theorem eqB_map {α : Type} {f : α → D} {xs : List α} (h : ∀ x ∈ xs, okD (f x) = true) (hd : ∀ x ∈ xs, depD (f x) ≤ 60) : eqB (.lst (xs.map f)) (.lst (xs.map f)) = some true := eqB_lst (okDs_map h) (depDs_map hd)
theorem kit_bb : kitB "bool" "bool" = some true := by decide +kernel
theorem kit_ii : kitB "int" "int" = some true := by decide +kernel
theorem kit_ib : kitB "int" "bool" = some false := by decide +kernel
end Sx

set_option Elab.async false
set_option linter.all false
set_option maxRecDepth 100000
set_option maxHeartbeats 4000000
namespace Sx
open PySem L2
def cutG {α : Type} (xs : List α) (lo hi : Option Int) : List α := (xs.drop (HT.sIx xs.length 0 lo)).take (HT.sIx xs.length xs.length hi - HT.sIx xs.length 0 lo)
theorem cutD_map {α : Type} (f : α → D) (xs : List α) (lo hi : Option Int) : cutD (xs.map f) lo hi = (cutG xs lo hi).map f := by
  unfold cutD cutG
  rw [List.length_map, List.map_take, List.map_drop]
theorem sIx_pos {n d : Nat} {i : Int} (h : 0 ≤ i) : HT.sIx n d (some i) = min i.toNat n := by
  obtain ⟨k, rfl⟩ : ∃ k : Nat, i = k := ⟨i.toNat, by omega⟩
  exact HT.sIx_nat n d k
theorem cutG_ab {α : Type} {xs : List α} {a b : Int} (h : 0 ≤ a ∧ a ≤ b ∧ b ≤ xs.length) : cutG xs (some a) (some b) = (xs.drop a.toNat).take (b - a).toNat := by
  unfold cutG
  rw [sIx_pos h.1, sIx_pos (by omega)]
  congr 1
  · omega
  · congr 1
    omega
theorem seq_nx {a b : En → Option Out} {E : En} (E1 : En) (h : a E = some (.nx E1)) : mSeq a b E = b E1 := by
  show (a E).bind _ = _
  rw [h]
  rfl
theorem seq_rt {a b : En → Option Out} {E : En} {d : D} (h : a E = some (.rt d)) : mSeq a b E = some (.rt d) := by
  show (a E).bind _ = _
  rw [h]
  rfl
def run (o : Option Out) : Option D := match o with
  | some (.rt d) => some d
  | some (.rf ds) => some (.lst ds)
  | some (.nx _) => some .non
  | _ => none
theorem mat_nx {a b : En → Option Out} {E : En} {d : D} (E1 : En) (h : a E = some (.nx E1)) (k : run (b E1) = some d) : run (mSeq a b E) = some d := by
  rw [seq_nx E1 h]
  exact k
theorem mat_if {c : En → Option Bool} {a b r : En → Option Out} {E : En} {d : D} (E1 : En) (k : Bool) (h : c E = some k) (h1 : k = true → a E = some (.nx E1)) (h2 : k = false → b E = some (.nx E1)) (g : run (r E1) = some d) : run (mSeq (mIfS c a b) r E) = some d := by
  refine mat_nx E1 ?_ g
  show (c E).bind _ = _
  rw [h]
  cases k with
  | true => exact h1 rfl
  | false => exact h2 rfl
theorem mat_for {mi : En → Option (List D)} {mg : En → D → Option En} {mb r : En → Option Out} {E : En} {d : D} (ds : List D) (E1 : En) (h : mi E = some ds) (h1 : runFor mg mb ds E = some (.nx E1)) (g : run (r E1) = some d) : run (mSeq (mFor mi mg mb) r E) = some d := by
  refine mat_nx E1 ?_ g
  show (mi E).bind _ = _
  rw [h]
  exact h1
theorem Paired.fn {α β : Type} {f : α → β} : ∀ {xs : List α} {ys : List β}, Paired (fun a b => b = f a) xs ys → ys = xs.map f
  | _, _, .nil => rfl
  | _, _, .cons h t => by rw [h, Paired.fn t]; rfl
theorem rep_one {α : Type} (n : Nat) (x : α) : (List.replicate n [x]).flatten = List.replicate n x := by
  induction n with
  | zero => rfl
  | succ n ih => rw [List.replicate_succ, List.flatten_cons, ih]; rfl
end Sx

set_option Elab.async false
set_option linter.all false
set_option maxRecDepth 100000
set_option maxHeartbeats 2000000
namespace Sx
open PySem PySem.Spec PyProof.Rows L2
open Evl (Ex)
def topS (i : Nat) : Stmt := PySem.Challenge.pw_surelyseen_k19_traces_refused.main.body.getD i (.Pass ⟨0, 0, 0, 0⟩)
def clsS (s : Stmt) (j : Nat) : Stmt := match s with
  | .ClassDef _ _ _ b _ _ _ _ _ _ _ => b.getD j (.Pass ⟨0, 0, 0, 0⟩)
  | s => s
section
variable {P : Program} {w : World} {K : PySem.W.Frag} {mg : Str → Option Value} {base : Heap}
abbrev s__consists_of : Stmt := topS 9
abbrev N__consists_of : List Str := ["text", "signs", "sign"]
theorem sc__consists_of : FnScope N__consists_of ["text", "signs"] (defScope s__consists_of) := ⟨rfl, rfl, rfl, by decide +kernel, rfl, by decide +kernel, by decide +kernel⟩
def b__consists_of : En → Option Out :=
      (mSeq (mFor (fun E => ((mVarT 0) E).bind txtOf) (gM 2) (mIfS (fun E => ((mBin notInDA (mVarT 2) (mVarT 1)) E).bind blOf) (mRet (mC (.bl false))) mNext))
      (mRet (mC (.bl true))))
def m__consists_of : List D → Option D := callM 2 3 b__consists_of
theorem fn__consists_of {f : Addr} {fd : FuncData} (F : FunD K "_consists_of" "_consists_of" (defArgs s__consists_of) (defBody s__consists_of) (defScope s__consists_of) [] [] f fd) : FnOk P w K mg base CX0 1 f fd ["text", "signs"] (spD K 2 m__consists_of) :=
  fn_mk (N := N__consists_of) (m := b__consists_of) F sc__consists_of rfl (fun cdv A outer s H E hr =>
      (dss_cons (ds_for PassesOwn.never rfl (di_str (dt_var 0)) (dg_name 2 sc__consists_of.nd) (dss_one (ds_if (db_cmp op_notInAll od_notInA (dt_var 2) (dt_var 1)) (dss_one (ds_ret (DE.t de_bl))) dss_nil)))
      (dss_one (ds_ret (DE.t de_bl)))))
theorem bd__consists_of (kV doc pm : Value) (an : Option Addr) (cdv ct : Value) (us : List Value) (hl : us.length = ["text", "signs"].length) : bindArgs (PySem.W.fnOf "_consists_of" "_consists_of" (defArgs s__consists_of) (defBody s__consists_of) (defScope s__consists_of) .none kV doc pm an cdv ct) ⟨us, []⟩ = pure ((["text", "signs"] : List Str).zip us) := match us, hl with | [_, _], _ => rfl
theorem cal__consists_of (F : Stands K mg "_consists_of" s__consists_of) : Cal P w K mg base "_consists_of" 1 2 m__consists_of :=
  cal_of F bd__consists_of fun F => fn__consists_of F

abbrev s_is_name : Stmt := topS 8
abbrev N_is_name : List Str := ["text"]
theorem sc_is_name : FnScope N_is_name ["text"] (defScope s_is_name) := ⟨rfl, rfl, rfl, by decide +kernel, rfl, by decide +kernel, by decide +kernel⟩
def b_is_name : En → Option Out :=
      (mSeq (mIfS (mOr (mNot (fun E => ((mChain (intOp fun i j => .bl (decide (i ≤ j))) (intOp fun i j => .bl (decide (i ≤ j))) (mC (.int 1)) (mUn lenD (mVarT 0)) (mC (.int 12))) E).bind blOf)) (fun E => ((mVarT 0) E).bind (inG ["all", "and", "or", "not", "some", "every", "row", "first", "from", "to", "at", "in"]))) (mRet (mC (.bl false))) mNext)
      (mRet (mAndV (mBin inDA (mBin ixD (mVarT 0) (mC (.int 0))) (mC (.str "abcdefghijklmnopqrstuvwxyz"))) (mCall 2 m__consists_of (mCons (mVar 0) (mCons (mBin addD (mC (.str "abcdefghijklmnopqrstuvwxyz")) (mC (.str "0123456789"))) mNil))))))
def m_is_name : List D → Option D := callM 1 1 b_is_name
theorem fn_is_name {f : Addr} {fd : FuncData} (F : FunD K "is_name" "is_name" (defArgs s_is_name) (defBody s_is_name) (defScope s_is_name) [] [] f fd) (c__consists_of : Cal P w K mg base "_consists_of" 1 2 m__consists_of) (g_MOST_LETTERS : ∃ t, mg "MOST_LETTERS" = some (.int 12 t)) (ct_RESERVED : CtS K mg "RESERVED" ["all", "and", "or", "not", "some", "every", "row", "first", "from", "to", "at", "in"]) (g_LETTERS : ∃ t, mg "LETTERS" = some (.str "abcdefghijklmnopqrstuvwxyz" t)) (g_DIGITS : ∃ t, mg "DIGITS" = some (.str "0123456789" t)) (h_len : mg "len" = none) : FnOk P w K mg base CX0 2 f fd ["text"] (spD K 1 m_is_name) :=
  fn_mk (N := N_is_name) (m := b_is_name) F sc_is_name rfl (fun cdv A outer s H E hr =>
      (dss_cons (ds_if (DW.toB (dw_or (db_not (db_chain op_le od_le op_le od_le (DE.t de_int) (DE.t (de_len h_len (dt_var 0))) (DE.t (de_gint g_MOST_LETTERS)))) (dw_or1 (db_inG ct_RESERVED (dt_var 0))))) (dss_one (ds_ret (DE.t de_bl))) dss_nil)
      (dss_one (ds_ret (DE.t (de_and (de_cmp op_inAll od_inA (DE.t (de_ix (dt_var 0) (DE.t de_int))) (DE.t (de_gstr g_LETTERS))) (de_one (de_call c__consists_of (hr.mono (by decide)) (da_cons (de_var 0) (da_cons (de_add (DE.t (de_gstr g_LETTERS)) (DE.t (de_gstr g_DIGITS))) da_nil))))))))))
theorem bd_is_name (kV doc pm : Value) (an : Option Addr) (cdv ct : Value) (us : List Value) (hl : us.length = ["text"].length) : bindArgs (PySem.W.fnOf "is_name" "is_name" (defArgs s_is_name) (defBody s_is_name) (defScope s_is_name) .none kV doc pm an cdv ct) ⟨us, []⟩ = pure ((["text"] : List Str).zip us) := match us, hl with | [_], _ => rfl
theorem cal_is_name (F : Stands K mg "is_name" s_is_name) (c__consists_of : Cal P w K mg base "_consists_of" 1 2 m__consists_of) (g_MOST_LETTERS : ∃ t, mg "MOST_LETTERS" = some (.int 12 t)) (ct_RESERVED : CtS K mg "RESERVED" ["all", "and", "or", "not", "some", "every", "row", "first", "from", "to", "at", "in"]) (g_LETTERS : ∃ t, mg "LETTERS" = some (.str "abcdefghijklmnopqrstuvwxyz" t)) (g_DIGITS : ∃ t, mg "DIGITS" = some (.str "0123456789" t)) (h_len : mg "len" = none) : Cal P w K mg base "is_name" 2 1 m_is_name :=
  cal_of F bd_is_name fun F => fn_is_name F c__consists_of g_MOST_LETTERS ct_RESERVED g_LETTERS g_DIGITS h_len

abbrev s__check_clocks : Stmt := topS 18
abbrev N__check_clocks : List Str := ["clocks", "name", "error", "_"]
theorem sc__check_clocks : FnScope N__check_clocks ["clocks"] (defScope s__check_clocks) := ⟨rfl, rfl, rfl, by decide +kernel, rfl, by decide +kernel, by decide +kernel⟩
def b__check_clocks : En → Option OutX :=
      (mSeqX (mIfX (mNot (fun E => ((mChain (intOp fun i j => .bl (decide (i ≤ j))) (intOp fun i j => .bl (decide (i ≤ j))) (mC (.int 1)) (mUn lenD (mVarT 0)) (mC (.int 6))) E).bind blOf)) (mRaise "BadTrace") mNextX)
      (mSeqX (mForX (fun E => ((mVar 0) E).bind tupOf) (gTupM 2 (gsCons (gM 1) (gsCons (gM 2) gsNil))) (mIfX (mOr (mNot (fun E => ((mCall 1 m_is_name (mCons (mVar 1) mNil)) E).bind truD)) (mNot (fun E => ((mChain (intOp fun i j => .bl (decide (i ≤ j))) (intOp fun i j => .bl (decide (i ≤ j))) (mC (.int 0)) (mVarT 2) (mC (.int 1000000))) E).bind blOf))) (mRaise "BadTrace") mNextX))
      (mIfX (fun E => ((mBin neD (mUn lenSetT (mList (mComp [1, 3] (fun E => ((mVar 0) E).bind tupOf) (gTupM 2 (gsCons (gM 1) (gsCons (gM 3) gsNil))) mYes (mVar 1)))) (mUn lenD (mVarT 0))) E).bind blOf) (mRaise "BadTrace") mNextX)))
def mX__check_clocks : List D → Option RX := callX 1 4 b__check_clocks
theorem fn__check_clocks {f : Addr} {fd : FuncData} (F : FunD K "_check_clocks" "_check_clocks" (defArgs s__check_clocks) (defBody s__check_clocks) (defScope s__check_clocks) [] [] f fd) (c_is_name : Cal P w K mg base "is_name" 2 1 m_is_name) (g_MOST_CLOCKS : ∃ t, mg "MOST_CLOCKS" = some (.int 6 t)) (x_BadTrace : ExF K mg "BadTrace") (g_MOST_ERROR : ∃ t, mg "MOST_ERROR" = some (.int 1000000 t)) (h_len : mg "len" = none) (h_set : mg "set" = none) : FnOk P w K mg base (L2N.CX P w) 3 f fd ["clocks"] (spX K 1 mX__check_clocks) :=
  fnX_mk (N := N__check_clocks) (m := b__check_clocks) F sc__check_clocks rfl (fun cdv A outer s H E hr tk hp =>
      (dxs_cons (dx_if (db_not (db_chain op_le od_le op_le od_le (DE.t de_int) (DE.t (de_len h_len (dt_var 0))) (DE.t (de_gint g_MOST_CLOCKS)))) (dxs_one (dx_raise x_BadTrace tk)) dxs_nil)
      (dxs_cons (dx_for hp rfl (di_tup (de_var 0)) (dg_tup rfl (dgs_cons (dg_name 1 sc__check_clocks.nd) (dgs_cons (dg_name 2 sc__check_clocks.nd) dgs_nil))) (dxs_one (dx_if (DW.toB (dw_or (db_not (db_tru (DE.t (de_call c_is_name (hr.mono (by decide)) (da_cons (de_var 1) da_nil))))) (dw_or1 (db_not (db_chain op_le od_le op_le od_le (DE.t de_int) (dt_var 2) (DE.t (de_gint g_MOST_ERROR))))))) (dxs_one (dx_raise x_BadTrace tk)) dxs_nil)))
      (dxs_one (dx_if (db_cmp (op_neAll hr) od_ne (DE.t (de_lenSetT rfl h_len h_set (DF.t (df_lc (own := [("name", 1), ("_", 3)]) rfl sc__check_clocks.nd (DI.t (di_tup (de_var 0))) (blkOk_by (N := N__check_clocks) (sc := defScope s__check_clocks) (by decide +kernel)) (by decide) (fun _ _ _ _ _ => (dg_tup rfl (dgs_cons (dg_name 1 sc__check_clocks.nd) (dgs_cons (dg_name 3 sc__check_clocks.nd) dgs_nil)))) (fun _ _ _ _ _ => dts_nil) (fun _ _ _ _ _ => (de_var 1)))))) (DE.t (de_len h_len (dt_var 0)))) (dxs_one (dx_raise x_BadTrace tk)) dxs_nil)))))
theorem bd__check_clocks (kV doc pm : Value) (an : Option Addr) (cdv ct : Value) (us : List Value) (hl : us.length = ["clocks"].length) : bindArgs (PySem.W.fnOf "_check_clocks" "_check_clocks" (defArgs s__check_clocks) (defBody s__check_clocks) (defScope s__check_clocks) .none kV doc pm an cdv ct) ⟨us, []⟩ = pure ((["clocks"] : List Str).zip us) := match us, hl with | [_], _ => rfl
theorem cal__check_clocks (F : Stands K mg "_check_clocks" s__check_clocks) (c_is_name : Cal P w K mg base "is_name" 2 1 m_is_name) (g_MOST_CLOCKS : ∃ t, mg "MOST_CLOCKS" = some (.int 6 t)) (x_BadTrace : ExF K mg "BadTrace") (g_MOST_ERROR : ∃ t, mg "MOST_ERROR" = some (.int 1000000 t)) (h_len : mg "len" = none) (h_set : mg "set" = none) : CalX P w K mg base "_check_clocks" 3 1 mX__check_clocks :=
  calX_of F bd__check_clocks fun F => fn__check_clocks F c_is_name g_MOST_CLOCKS x_BadTrace g_MOST_ERROR h_len h_set

abbrev s__lies_within : Stmt := topS 20
abbrev N__lies_within : List Str := ["span", "parent", "_", "clock", "start", "end", "parent_clock", "parent_start", "parent_end"]
theorem sc__lies_within : FnScope N__lies_within ["span", "parent"] (defScope s__lies_within) := ⟨rfl, rfl, rfl, by decide +kernel, rfl, by decide +kernel, by decide +kernel⟩
def b__lies_within : En → Option Out :=
      (mSeq (mAsg (gTupM 5 (gsCons (gM 2) (gsCons (gM 2) (gsCons (gM 3) (gsCons (gM 4) (gsCons (gM 5) gsNil)))))) (mVar 0))
      (mSeq (mAsg (gTupM 5 (gsCons (gM 2) (gsCons (gM 2) (gsCons (gM 6) (gsCons (gM 7) (gsCons (gM 8) gsNil)))))) (mVar 1))
      (mSeq (mIfS (mOr (fun E => ((mBin neD (mVarT 3) (mVarT 6)) E).bind blOf) (mOr (fun E => ((mVarT 4) E).map isN) (fun E => ((mVarT 7) E).map isN))) (mRet (mC (.bl true))) mNext)
      (mRet (mAndV (mBin (intOp fun i j => .bl (decide (i ≤ j))) (mVarT 7) (mVarT 4)) (mBin (intOp fun i j => .bl (decide (i ≤ j))) (mVarT 5) (mVarT 8)))))))
def m__lies_within : List D → Option D := callM 2 9 b__lies_within
theorem fn__lies_within {f : Addr} {fd : FuncData} (F : FunD K "_lies_within" "_lies_within" (defArgs s__lies_within) (defBody s__lies_within) (defScope s__lies_within) [] [] f fd) : FnOk P w K mg base CX0 1 f fd ["span", "parent"] (spD K 2 m__lies_within) :=
  fn_mk (N := N__lies_within) (m := b__lies_within) F sc__lies_within rfl (fun cdv A outer s H E hr =>
      (dss_cons (ds_asg (de_var 0) (dg_tup rfl (dgs_cons (dg_name 2 sc__lies_within.nd) (dgs_cons (dg_name 2 sc__lies_within.nd) (dgs_cons (dg_name 3 sc__lies_within.nd) (dgs_cons (dg_name 4 sc__lies_within.nd) (dgs_cons (dg_name 5 sc__lies_within.nd) dgs_nil)))))))
      (dss_cons (ds_asg (de_var 1) (dg_tup rfl (dgs_cons (dg_name 2 sc__lies_within.nd) (dgs_cons (dg_name 2 sc__lies_within.nd) (dgs_cons (dg_name 6 sc__lies_within.nd) (dgs_cons (dg_name 7 sc__lies_within.nd) (dgs_cons (dg_name 8 sc__lies_within.nd) dgs_nil)))))))
      (dss_cons (ds_if (DW.toB (dw_or (db_cmp (op_neAll hr) od_ne (dt_var 3) (dt_var 6)) (dw_or (db_isN (dt_var 4)) (dw_or1 (db_isN (dt_var 7)))))) (dss_one (ds_ret (DE.t de_bl))) dss_nil)
      (dss_one (ds_ret (DE.t (de_and (de_cmp op_le od_le (dt_var 7) (dt_var 4)) (de_one (de_cmp op_le od_le (dt_var 5) (dt_var 8)))))))))))
theorem bd__lies_within (kV doc pm : Value) (an : Option Addr) (cdv ct : Value) (us : List Value) (hl : us.length = ["span", "parent"].length) : bindArgs (PySem.W.fnOf "_lies_within" "_lies_within" (defArgs s__lies_within) (defBody s__lies_within) (defScope s__lies_within) .none kV doc pm an cdv ct) ⟨us, []⟩ = pure ((["span", "parent"] : List Str).zip us) := match us, hl with | [_, _], _ => rfl
theorem cal__lies_within (F : Stands K mg "_lies_within" s__lies_within) : Cal P w K mg base "_lies_within" 1 2 m__lies_within :=
  cal_of F bd__lies_within fun F => fn__lies_within F

abbrev s__check_spans : Stmt := topS 19
abbrev N__check_spans : List Str := ["clocks", "spans", "names", "earlier", "span", "name", "parent", "clock", "start", "end", "_", "0n0"]
theorem sc__check_spans : FnScope N__check_spans ["clocks", "spans"] (defScope s__check_spans) := ⟨rfl, rfl, rfl, by decide +kernel, rfl, by decide +kernel, by decide +kernel⟩
def b__check_spans : En → Option OutX :=
      (mSeqX (mO (mSet 2 (mList (mComp [5, 10] (fun E => ((mVar 0) E).bind tupOf) (gTupM 2 (gsCons (gM 5) (gsCons (gM 10) gsNil))) mYes (mVar 5)))))
      (mSeqX (mO (mDNew0 3 11))
      (mForX (fun E => ((mVar 1) E).bind tupOf) (gM 4) (mSeqX (mO (mAsg (gTupM 5 (gsCons (gM 5) (gsCons (gM 6) (gsCons (gM 7) (gsCons (gM 8) (gsCons (gM 9) gsNil)))))) (mVar 4)))
      (mSeqX (mIfX (mOr (mNot (fun E => ((mCall 1 m_is_name (mCons (mVar 5) mNil)) E).bind truD)) (fun E => ((mBin inD2 (mVarT 5) (mVarT 3)) E).bind blOf)) (mRaise "BadTrace") mNextX)
      (mSeqX (mIfX (mOr (fun E => ((mBin notInDA (mVarT 7) (mVarT 2)) E).bind blOf) (mAnd (fun E => ((mVarT 6) E).map (fun d => !isN d)) (fun E => ((mBin notInD2 (mVarT 6) (mVarT 3)) E).bind blOf))) (mRaise "BadTrace") mNextX)
      (mSeqX (mIfX (mOr (fun E => ((mBin neD (mUn (fun d => some (.bl (isN d))) (mVarT 8)) (mUn (fun d => some (.bl (isN d))) (mVarT 9))) E).bind blOf) (mAnd (fun E => ((mVarT 8) E).map (fun d => !isN d)) (fun E => ((mBin (intOp fun i j => .bl (decide (j < i))) (mVarT 8) (mVarT 9)) E).bind blOf))) (mRaise "BadTrace") mNextX)
      (mSeqX (mIfX (mAnd (fun E => ((mVarT 6) E).map (fun d => !isN d)) (mNot (fun E => ((mCall 2 m__lies_within (mCons (mVar 4) (mCons (mBin ixD2 (mVarT 3) (mVarT 6)) mNil))) E).bind truD))) (mRaise "BadTrace") mNextX)
      (mO (mDPut 3 (mVar 4) (mVar 5)))))))))))
def mX__check_spans : List D → Option RX := callX 2 12 b__check_spans
theorem fn__check_spans {f : Addr} {fd : FuncData} (F : FunD K "_check_spans" "_check_spans" (defArgs s__check_spans) (defBody s__check_spans) (defScope s__check_spans) [] [] f fd) (c_is_name : Cal P w K mg base "is_name" 2 1 m_is_name) (c__lies_within : Cal P w K mg base "_lies_within" 1 2 m__lies_within) (x_BadTrace : ExF K mg "BadTrace") : FnOk P w K mg base (L2N.CX P w) 3 f fd ["clocks", "spans"] (spX K 2 mX__check_spans) :=
  fnX_mk (N := N__check_spans) (m := b__check_spans) F sc__check_spans rfl (fun cdv A outer s H E hr tk hp =>
      (dxs_cons (dx_of (ds_setLcF 2 (own := [("name", 5), ("_", 10)]) rfl sc__check_spans.nd (DI.t (di_tup (de_var 0))) (blkOk_by (N := N__check_spans) (sc := defScope s__check_spans) (by decide +kernel)) (by decide) (fun _ _ _ _ _ => (dg_tup rfl (dgs_cons (dg_name 5 sc__check_spans.nd) (dgs_cons (dg_name 10 sc__check_spans.nd) dgs_nil)))) (fun _ _ _ _ _ => dts_nil) (fun _ _ _ _ _ => (de_var 5)) (sw_true rfl rfl rfl (by decide +kernel))))
      (dxs_cons (dx_of (ds_dnew0 3 11 sc__check_spans.nd))
      (dxs_one (dx_for hp rfl (di_tup (de_var 1)) (dg_name 4 sc__check_spans.nd) (dxs_cons (dx_of (ds_asg (de_var 4) (dg_tup rfl (dgs_cons (dg_name 5 sc__check_spans.nd) (dgs_cons (dg_name 6 sc__check_spans.nd) (dgs_cons (dg_name 7 sc__check_spans.nd) (dgs_cons (dg_name 8 sc__check_spans.nd) (dgs_cons (dg_name 9 sc__check_spans.nd) dgs_nil))))))))
      (dxs_cons (dx_if (DW.toB (dw_or (db_not (db_tru (DE.t (de_call c_is_name (hr.mono (by decide)) (da_cons (de_var 5) da_nil))))) (dw_or1 (db_in2 hr (dt_var 5) (dt_var 3))))) (dxs_one (dx_raise x_BadTrace tk)) dxs_nil)
      (dxs_cons (dx_if (DW.toB (dw_or (db_cmp op_notInAll od_notInA (dt_var 7) (dt_var 2)) (dw_or1 (DW.toB (dw_and (db_notN (dt_var 6)) (dw_and1 (db_notIn2 hr (dt_var 6) (dt_var 3)))))))) (dxs_one (dx_raise x_BadTrace tk)) dxs_nil)
      (dxs_cons (dx_if (DW.toB (dw_or (db_cmp (op_neAll hr) od_ne (DE.t (de_isN (dt_var 8))) (DE.t (de_isN (dt_var 9)))) (dw_or1 (DW.toB (dw_and (db_notN (dt_var 8)) (dw_and1 (db_cmp op_gt od_gt (dt_var 8) (dt_var 9)))))))) (dxs_one (dx_raise x_BadTrace tk)) dxs_nil)
      (dxs_cons (dx_if (DW.toB (dw_and (db_notN (dt_var 6)) (dw_and1 (db_not (db_tru (DE.t (de_call c__lies_within (hr.mono (by decide)) (da_cons (de_var 4) (da_cons (de_ix2 hr (dt_var 3) (dt_var 6)) da_nil))))))))) (dxs_one (dx_raise x_BadTrace tk)) dxs_nil)
      (dxs_one (dx_of (ds_dput 3 hr (de_var 4) (de_var 5))))))))))))))
theorem bd__check_spans (kV doc pm : Value) (an : Option Addr) (cdv ct : Value) (us : List Value) (hl : us.length = ["clocks", "spans"].length) : bindArgs (PySem.W.fnOf "_check_spans" "_check_spans" (defArgs s__check_spans) (defBody s__check_spans) (defScope s__check_spans) .none kV doc pm an cdv ct) ⟨us, []⟩ = pure ((["clocks", "spans"] : List Str).zip us) := match us, hl with | [_, _], _ => rfl
theorem cal__check_spans (F : Stands K mg "_check_spans" s__check_spans) (c_is_name : Cal P w K mg base "is_name" 2 1 m_is_name) (c__lies_within : Cal P w K mg base "_lies_within" 1 2 m__lies_within) (x_BadTrace : ExF K mg "BadTrace") : CalX P w K mg base "_check_spans" 3 2 mX__check_spans :=
  calX_of F bd__check_spans fun F => fn__check_spans F c_is_name c__lies_within x_BadTrace

abbrev s_init_Trace : Stmt := clsS (topS 15) 0
abbrev N_init_Trace : List Str := ["self", "clocks", "spans", "hop", "numbers", "name", "_", "clock", "start", "end", "side", "shown", "span", "number", "error", "0n0", "0n1"]
theorem sc_init_Trace : FnScope N_init_Trace ["self", "clocks", "spans", "hop"] (defScope s_init_Trace) := ⟨rfl, rfl, rfl, by decide +kernel, rfl, by decide +kernel, by decide +kernel⟩
def b_init_Trace : En → Option OutX :=
      (mSeqX (mO (mFld 0 "Trace" "clocks" (mUn tupleD (mList (mComp [5, 14] (fun E => ((mVarT 1) E).bind lstOf) (gTupM 2 (gsCons (gM 5) (gsCons (gM 14) gsNil))) mYes (mTup (mCons (mVar 5) (mCons (mVar 14) mNil))))))))
      (mSeqX (mO (mFld 0 "Trace" "spans" (mUn tupleD (mList (mComp [12] (fun E => ((mVarT 2) E).bind lstOf) (gM 12) mYes (mUn tupleD (mVarT 12)))))))
      (mSeqX (mO (mFld 0 "Trace" "hop" (mVar 3)))
      (mSeqX (mDropX (mCallX 1 mX__check_clocks (mCons (mFldE 0 "Trace" "clocks") mNil)))
      (mSeqX (mDropX (mCallX 2 mX__check_spans (mCons (mFldE 0 "Trace" "clocks") (mCons (mFldE 0 "Trace" "spans") mNil))))
      (mSeqX (mIfX (mNot (fun E => ((mChain (intOp fun i j => .bl (decide (i ≤ j))) (intOp fun i j => .bl (decide (i ≤ j))) (mC (.int 0)) (mVarT 3) (mC (.int 1000000))) E).bind blOf)) (mRaise "BadTrace") mNextX)
      (mSeqX (mO (mFld 0 "Trace" "points" (mBin addD (mC (.int 1)) (mUn lenD (mFldE 0 "Trace" "clocks")))))
      (mSeqX (mO (mFldD 0 16 (.t []) "Trace" "events"))
      (mSeqX (mO (mSet 4 (mDc [13, 5, 6] (mEnumT (mFldE 0 "Trace" "clocks")) (gTupM 2 (gsCons (gM 13) (gsCons (gTupM 2 (gsCons (gM 5) (gsCons (gM 6) gsNil))) gsNil))) mYes (mVar 5) (mBin addD (mVarT 13) (mC (.int 1))))))
      (mO (mFor (fun E => ((mFldE 0 "Trace" "spans") E).bind tupOf) (gTupM 5 (gsCons (gM 5) (gsCons (gM 6) (gsCons (gM 7) (gsCons (gM 8) (gsCons (gM 9) gsNil)))))) (mFor (fun E => ((mTup (mCons (mVar 8) (mCons (mVar 9) mNil))) E).bind fun b => (tupOf b).map fun bs => zipD ((["start", "end"] : List Str).map .str) bs) (gTupM 2 (gsCons (gM 10) (gsCons (gM 11) gsNil))) (mIfS (fun E => ((mVarT 11) E).map isN) (mSeq (mFDPut 0 "Trace" "events" (mTup (mCons (mFldE 0 "Trace" "points") (mCons (mC (.int 0)) mNil))) (mTup (mCons (mVar 5) (mCons (mVar 10) mNil))))
      (mFldAug (fun i j => i + j) 0 "Trace" "points" (mC (.int 1)))) (mFDPut 0 "Trace" "events" (mTup (mCons (mBin ixD2 (mVarT 4) (mVarT 7)) (mCons (mVar 11) mNil))) (mTup (mCons (mVar 5) (mCons (mVar 10) mNil)))))))))))))))))
def mb_Trace (a : Addr) : List D → Option RX := callIX [16] 17 15 "Trace" b_init_Trace a
noncomputable def mi_Trace (ds : List D) : Option RX := anyA fun a => mb_Trace a ds
theorem fn_init_Trace {f : Addr} {fd : FuncData} (F : FunD K "__init__" "Trace.__init__" (defArgs s_init_Trace) (defBody s_init_Trace) (defScope s_init_Trace) [] [("hop", .int 0)] f fd) (c__check_clocks : CalX P w K mg base "_check_clocks" 3 1 mX__check_clocks) (c__check_spans : CalX P w K mg base "_check_spans" 3 2 mX__check_spans) (k_Trace : Cls K (He.ga K "Trace")) (n_Trace_clocks : NoAttr K (He.ga K "Trace") "clocks") (n_Trace_spans : NoAttr K (He.ga K "Trace") "spans") (n_Trace_hop : NoAttr K (He.ga K "Trace") "hop") (g_MOST_HOP : ∃ t, mg "MOST_HOP" = some (.int 1000000 t)) (x_BadTrace : ExF K mg "BadTrace") (n_Trace_points : NoAttr K (He.ga K "Trace") "points") (n_Trace_events : NoAttr K (He.ga K "Trace") "events") (ct_SIDES : CtS K mg "SIDES" ["start", "end"]) (h_tuple : mg "tuple" = none) (h_len : mg "len" = none) (h_enumerate : mg "enumerate" = none) (h_zip : mg "zip" = none) : FnOk P w K mg base (L2N.CX P w) 4 f fd ["self", "clocks", "spans", "hop"] (spIX K 3 "Trace" mi_Trace) :=
  fnIX_mk (N := N_init_Trace) (m := b_init_Trace) (fzs := [16]) (j := 15) F sc_init_Trace rfl (by decide) (by decide) (by decide) (fun a ds r h => anyA_at h a) (fun cdv A outer s H E hr tk hp =>
      (dxs_cons (dx_of (ds_fld 0 "Trace" k_Trace n_Trace_clocks (de_tuple h_tuple (DF.t (df_lc (own := [("name", 5), ("error", 14)]) rfl sc_init_Trace.nd (dit_list (dt_var 1)) (blkOk_by (N := N_init_Trace) (sc := defScope s_init_Trace) (by decide +kernel)) (by decide) (fun _ _ _ _ _ => (dg_tup rfl (dgs_cons (dg_name 5 sc_init_Trace.nd) (dgs_cons (dg_name 14 sc_init_Trace.nd) dgs_nil)))) (fun _ _ _ _ _ => dts_nil) (fun _ _ _ _ _ => (de_tup (da_cons (de_var 5) (da_cons (de_var 14) da_nil)))))))))
      (dxs_cons (dx_of (ds_fld 0 "Trace" k_Trace n_Trace_spans (de_tuple h_tuple (DF.t (df_lc (own := [("span", 12)]) rfl sc_init_Trace.nd (dit_list (dt_var 2)) (blkOk_by (N := N_init_Trace) (sc := defScope s_init_Trace) (by decide +kernel)) (by decide) (fun _ _ _ _ _ => (dg_name 12 sc_init_Trace.nd)) (fun _ _ _ _ _ => dts_nil) (fun _ _ _ _ _ => (de_tuple h_tuple (dt_var 12))))))))
      (dxs_cons (dx_of (ds_fld 0 "Trace" k_Trace n_Trace_hop (de_var 3)))
      (dxs_cons (dx_expr (dex_call c__check_clocks tk (hr.mono (by decide)) (da_cons (de_fldO 0 "Trace" k_Trace n_Trace_clocks) da_nil)))
      (dxs_cons (dx_expr (dex_call c__check_spans tk (hr.mono (by decide)) (da_cons (de_fldO 0 "Trace" k_Trace n_Trace_clocks) (da_cons (de_fldO 0 "Trace" k_Trace n_Trace_spans) da_nil))))
      (dxs_cons (dx_if (db_not (db_chain op_le od_le op_le od_le (DE.t de_int) (dt_var 3) (DE.t (de_gint g_MOST_HOP)))) (dxs_one (dx_raise x_BadTrace tk)) dxs_nil)
      (dxs_cons (dx_of (ds_fld 0 "Trace" k_Trace n_Trace_points (de_add (DE.t de_int) (DE.t (de_len h_len (DE.t (de_fldO 0 "Trace" k_Trace n_Trace_clocks)))))))
      (dxs_cons (dx_of (ds_fldD0T 0 16 "Trace" k_Trace n_Trace_events))
      (dxs_cons (dx_of (ds_setDc 4 (own := [("number", 13), ("name", 5), ("_", 6)]) rfl sc_init_Trace.nd (DI.t (di_enumT h_enumerate (de_fldO 0 "Trace" k_Trace n_Trace_clocks))) (blkOk_by (N := N_init_Trace) (sc := defScope s_init_Trace) (by decide +kernel)) (by decide) (fun _ _ _ _ _ => (dg_tup rfl (dgs_cons (dg_name 13 sc_init_Trace.nd) (dgs_cons (dg_tup rfl (dgs_cons (dg_name 5 sc_init_Trace.nd) (dgs_cons (dg_name 6 sc_init_Trace.nd) dgs_nil))) dgs_nil)))) (fun _ _ _ _ _ => dts_nil) (fun _ _ _ _ _ => (de_var 5)) (fun _ _ _ _ _ => (de_add (dt_var 13) (DE.t de_int))) (sw_trueD rfl rfl rfl (by decide +kernel))))
      (dxs_one (dx_of (ds_for hp rfl (di_tup (de_fldO 0 "Trace" k_Trace n_Trace_spans)) (dg_tup rfl (dgs_cons (dg_name 5 sc_init_Trace.nd) (dgs_cons (dg_name 6 sc_init_Trace.nd) (dgs_cons (dg_name 7 sc_init_Trace.nd) (dgs_cons (dg_name 8 sc_init_Trace.nd) (dgs_cons (dg_name 9 sc_init_Trace.nd) dgs_nil)))))) (dss_one (ds_for hp rfl (di_zipG ct_SIDES h_zip (de_tup (da_cons (de_var 8) (da_cons (de_var 9) da_nil)))) (dg_tup rfl (dgs_cons (dg_name 10 sc_init_Trace.nd) (dgs_cons (dg_name 11 sc_init_Trace.nd) dgs_nil))) (dss_one (ds_if (db_isN (dt_var 11)) (dss_cons (ds_fdput 0 "Trace" hr k_Trace n_Trace_events (de_tup (da_cons (de_fldO 0 "Trace" k_Trace n_Trace_points) (da_cons de_int da_nil))) (de_tup (da_cons (de_var 5) (da_cons (de_var 10) da_nil))))
      (dss_one (ds_fldAdd 0 "Trace" k_Trace n_Trace_points de_int))) (dss_one (ds_fdput 0 "Trace" hr k_Trace n_Trace_events (de_tup (da_cons (de_ix2 hr (dt_var 4) (dt_var 7)) (da_cons (de_var 11) da_nil))) (de_tup (da_cons (de_var 5) (da_cons (de_var 10) da_nil))))))))))))))))))))))
theorem bz_init_Trace (D : Addr) (doc pm : Value) (an : Option Addr) (cdv ct : Value) (us ks : List Value) (hl : us.length = 3) (hk : ks.length = 1) : KwChain D ((["hop"] : List Str).zip ks) (bindArgs (PySem.W.fnOf "__init__" "Trace.__init__" (defArgs s_init_Trace) (defBody s_init_Trace) (defScope s_init_Trace) .none (.ref D) doc pm an cdv ct) ⟨us, []⟩) ((["self", "clocks", "spans", "hop"] : List Str).zip (us ++ ks)) := match us, ks, hl, hk with | [_, _, _], [_], _, _ => ⟨_, _, _, _, _, _, rfl, rfl, rfl⟩
theorem bd_init_Trace (D : Addr) (doc pm : Value) (an : Option Addr) (cdv ct : Value) (us ks : List Value) (hl : us.length = 3) (hk : ks.length = 1) : bindArgs (PySem.W.fnOf "__init__" "Trace.__init__" (defArgs s_init_Trace) (defBody s_init_Trace) (defScope s_init_Trace) .none (.ref D) doc pm an cdv ct) ⟨us, (["hop"] : List Str).zip ks⟩ = pure ((["self", "clocks", "spans", "hop"] : List Str).zip (us ++ ks)) := match us, ks, hl, hk with | [_, _, _], [_], _, _ => rfl
theorem calI_init_Trace (F : StandsIK K mg "Trace" "Trace.__init__" s_init_Trace [("hop", .int 0)]) (c__check_clocks : CalX P w K mg base "_check_clocks" 3 1 mX__check_clocks) (c__check_spans : CalX P w K mg base "_check_spans" 3 2 mX__check_spans) (k_Trace : Cls K (He.ga K "Trace")) (n_Trace_clocks : NoAttr K (He.ga K "Trace") "clocks") (n_Trace_spans : NoAttr K (He.ga K "Trace") "spans") (n_Trace_hop : NoAttr K (He.ga K "Trace") "hop") (g_MOST_HOP : ∃ t, mg "MOST_HOP" = some (.int 1000000 t)) (x_BadTrace : ExF K mg "BadTrace") (n_Trace_points : NoAttr K (He.ga K "Trace") "points") (n_Trace_events : NoAttr K (He.ga K "Trace") "events") (ct_SIDES : CtS K mg "SIDES" ["start", "end"]) (h_tuple : mg "tuple" = none) (h_len : mg "len" = none) (h_enumerate : mg "enumerate" = none) (h_zip : mg "zip" = none) : CalIX P w K mg base "Trace" 4 3 2 ["hop"] [.int 0] mi_Trace :=
  calIX_of (kws := [("hop", .int 0)]) F (by simp) rfl bz_init_Trace bd_init_Trace fun F => fn_init_Trace F c__check_clocks c__check_spans k_Trace n_Trace_clocks n_Trace_spans n_Trace_hop g_MOST_HOP x_BadTrace n_Trace_points n_Trace_events ct_SIDES h_tuple h_len h_enumerate h_zip

abbrev s__later : Stmt := topS 17
abbrev N__later : List Str := ["trace", "earlier", "later", "gap", "p", "sp", "q", "sq"]
theorem sc__later : FnScope N__later ["trace", "earlier", "later", "gap"] (defScope s__later) := ⟨rfl, rfl, rfl, by decide +kernel, rfl, by decide +kernel, by decide +kernel⟩
def b__later : En → Option Out :=
      (mSeq (mAsg (gTupM 2 (gsCons (gM 4) (gsCons (gM 5) gsNil))) (mBin ixD2 (mUn (fldD "Trace" "events") (mVarT 0)) (mVarT 1)))
      (mSeq (mAsg (gTupM 2 (gsCons (gM 6) (gsCons (gM 7) gsNil))) (mBin ixD2 (mUn (fldD "Trace" "events") (mVarT 0)) (mVarT 2)))
      (mRetF (mIfF (fun E => ((mBin eqD (mVarT 4) (mVarT 6)) E).bind blOf) (mLst mNil) (mLst (mCons (mTup (mCons (mVar 4) (mCons (mVar 6) (mCons (mBin (intOp fun i j => .int (i - j)) (mBin addD (mVarT 3) (mVarT 5)) (mVarT 7)) (mCons (mC .non) mNil))))) mNil))))))
def m__later : List D → Option D := callM 4 8 b__later
theorem fn__later {f : Addr} {fd : FuncData} (F : FunD K "_later" "_later" (defArgs s__later) (defBody s__later) (defScope s__later) [] [] f fd) (k_Trace : Cls K (He.ga K "Trace")) (n_Trace_events : NoAttr K (He.ga K "Trace") "events") : FnOk P w K mg base CX0 1 f fd ["trace", "earlier", "later", "gap"] (spD K 4 m__later) :=
  fn_mk (N := N__later) (m := b__later) F sc__later rfl (fun cdv A outer s H E hr =>
      (dss_cons (ds_asg (de_ix2 hr (DE.t (de_fld "Trace" k_Trace n_Trace_events (dt_var 0))) (dt_var 1)) (dg_tup rfl (dgs_cons (dg_name 4 sc__later.nd) (dgs_cons (dg_name 5 sc__later.nd) dgs_nil))))
      (dss_cons (ds_asg (de_ix2 hr (DE.t (de_fld "Trace" k_Trace n_Trace_events (dt_var 0))) (dt_var 2)) (dg_tup rfl (dgs_cons (dg_name 6 sc__later.nd) (dgs_cons (dg_name 7 sc__later.nd) dgs_nil))))
      (dss_one (ds_retF (df_if (db_cmp (op_eqAll hr) od_eq (dt_var 4) (dt_var 6)) (df_lst da_nil) (df_lst (da_cons (de_tup (da_cons (de_var 4) (da_cons (de_var 6) (da_cons (de_sub (DE.t (de_add (dt_var 3) (dt_var 5))) (dt_var 7)) (da_cons de_non da_nil))))) da_nil))))))))
theorem bd__later (kV doc pm : Value) (an : Option Addr) (cdv ct : Value) (us : List Value) (hl : us.length = ["trace", "earlier", "later", "gap"].length) : bindArgs (PySem.W.fnOf "_later" "_later" (defArgs s__later) (defBody s__later) (defScope s__later) .none kV doc pm an cdv ct) ⟨us, []⟩ = pure ((["trace", "earlier", "later", "gap"] : List Str).zip us) := match us, hl with | [_, _, _, _], _ => rfl
theorem cal__later (F : Stands K mg "_later" s__later) (k_Trace : Cls K (He.ga K "Trace")) (n_Trace_events : NoAttr K (He.ga K "Trace") "events") : Cal P w K mg base "_later" 1 4 m__later :=
  cal_of F bd__later fun F => fn__later F k_Trace n_Trace_events
def mF__later : List D → Option (List D) := callF 4 8 b__later
theorem fnF__later {f : Addr} {fd : FuncData} (F : FunD K "_later" "_later" (defArgs s__later) (defBody s__later) (defScope s__later) [] [] f fd) (k_Trace : Cls K (He.ga K "Trace")) (n_Trace_events : NoAttr K (He.ga K "Trace") "events") : FnOk P w K mg base CX0 1 f fd ["trace", "earlier", "later", "gap"] (spF K 4 mF__later) :=
  fnF_mk (N := N__later) (m := b__later) F sc__later rfl (fun cdv A outer s H E hr =>
      (dss_cons (ds_asg (de_ix2 hr (DE.t (de_fld "Trace" k_Trace n_Trace_events (dt_var 0))) (dt_var 1)) (dg_tup rfl (dgs_cons (dg_name 4 sc__later.nd) (dgs_cons (dg_name 5 sc__later.nd) dgs_nil))))
      (dss_cons (ds_asg (de_ix2 hr (DE.t (de_fld "Trace" k_Trace n_Trace_events (dt_var 0))) (dt_var 2)) (dg_tup rfl (dgs_cons (dg_name 6 sc__later.nd) (dgs_cons (dg_name 7 sc__later.nd) dgs_nil))))
      (dss_one (ds_retF (df_if (db_cmp (op_eqAll hr) od_eq (dt_var 4) (dt_var 6)) (df_lst da_nil) (df_lst (da_cons (de_tup (da_cons (de_var 4) (da_cons (de_var 6) (da_cons (de_sub (DE.t (de_add (dt_var 3) (dt_var 5))) (dt_var 7)) (da_cons de_non da_nil))))) da_nil))))))))
theorem calF__later (F : Stands K mg "_later" s__later) (k_Trace : Cls K (He.ga K "Trace")) (n_Trace_events : NoAttr K (He.ga K "Trace") "events") : CalF P w K mg base "_later" 1 4 mF__later :=
  calF_of F bd__later fun F => fnF__later F k_Trace n_Trace_events

abbrev s_trace_facts : Stmt := topS 16
abbrev N_trace_facts : List Str := ["trace", "found", "clock_of", "name", "parent", "clock", "start", "_", "span", "gap", "number", "error"]
theorem sc_trace_facts : FnScope N_trace_facts ["trace"] (defScope s_trace_facts) := ⟨rfl, rfl, rfl, by decide +kernel, rfl, by decide +kernel, by decide +kernel⟩
def b_trace_facts : En → Option Out :=
      (mSeq (mSetO 1 (mComp [10, 7, 11] (mEnumT (mUn (fldD "Trace" "clocks") (mVarT 0))) (gTupM 2 (gsCons (gM 10) (gsCons (gTupM 2 (gsCons (gM 7) (gsCons (gM 11) gsNil))) gsNil))) mYes (mTup (mCons (mC (.int 0)) (mCons (mBin addD (mVarT 10) (mC (.int 1))) (mCons (mUn negD (mVarT 11)) (mCons (mVar 11) mNil)))))))
      (mSeq (mSet 2 (mDc [8] (fun E => ((mUn (fldD "Trace" "spans") (mVarT 0)) E).bind tupOf) (gM 8) mYes (mBin ixD (mVarT 8) (mC (.int 0))) (mBin ixD (mVarT 8) (mC (.int 2)))))
      (mSeq (mFor (fun E => ((mUn (fldD "Trace" "spans") (mVarT 0)) E).bind tupOf) (gTupM 5 (gsCons (gM 3) (gsCons (gM 4) (gsCons (gM 5) (gsCons (gM 6) (gsCons (gM 7) gsNil)))))) (mSeq (mIfS (fun E => ((mVarT 6) E).map isN) (mExt 1 (mCallF 4 mF__later (mCons (mVar 0) (mCons (mTup (mCons (mVar 3) (mCons (mC (.str "start")) mNil))) (mCons (mTup (mCons (mVar 3) (mCons (mC (.str "end")) mNil))) (mCons (mC (.int 0)) mNil)))))) mNext)
      (mIfS (fun E => ((mVarT 4) E).map (fun d => !isN d)) (mSeq (mSet 9 (mIf (fun E => ((mBin eqD (mVarT 5) (mBin ixD2 (mVarT 2) (mVarT 4))) E).bind blOf) (mC (.int 0)) (mUn (fldD "Trace" "hop") (mVarT 0))))
      (mSeq (mExt 1 (mCallF 4 mF__later (mCons (mVar 0) (mCons (mTup (mCons (mVar 4) (mCons (mC (.str "start")) mNil))) (mCons (mTup (mCons (mVar 3) (mCons (mC (.str "start")) mNil))) (mCons (mVar 9) mNil))))))
      (mExt 1 (mCallF 4 mF__later (mCons (mVar 0) (mCons (mTup (mCons (mVar 3) (mCons (mC (.str "end")) mNil))) (mCons (mTup (mCons (mVar 4) (mCons (mC (.str "end")) mNil))) (mCons (mVar 9) mNil)))))))) mNext)))
      (mRetO 1))))
def m_trace_facts : List D → Option D := callM 1 12 b_trace_facts
theorem fn_trace_facts {f : Addr} {fd : FuncData} (F : FunD K "trace_facts" "trace_facts" (defArgs s_trace_facts) (defBody s_trace_facts) (defScope s_trace_facts) [] [] f fd) (f__later : CalF P w K mg base "_later" 1 4 mF__later) (k_Trace : Cls K (He.ga K "Trace")) (n_Trace_clocks : NoAttr K (He.ga K "Trace") "clocks") (n_Trace_spans : NoAttr K (He.ga K "Trace") "spans") (n_Trace_hop : NoAttr K (He.ga K "Trace") "hop") (h_enumerate : mg "enumerate" = none) : FnOk P w K mg base CX0 2 f fd ["trace"] (spD K 1 m_trace_facts) :=
  fn_mk (N := N_trace_facts) (m := b_trace_facts) F sc_trace_facts rfl (fun cdv A outer s H E hr =>
      (dss_cons (ds_setLc 1 (own := [("number", 10), ("_", 7), ("error", 11)]) rfl sc_trace_facts.nd (DI.t (di_enumT h_enumerate (de_fld "Trace" k_Trace n_Trace_clocks (dt_var 0)))) (blkOk_by (N := N_trace_facts) (sc := defScope s_trace_facts) (by decide +kernel)) (by decide) (fun _ _ _ _ _ => (dg_tup rfl (dgs_cons (dg_name 10 sc_trace_facts.nd) (dgs_cons (dg_tup rfl (dgs_cons (dg_name 7 sc_trace_facts.nd) (dgs_cons (dg_name 11 sc_trace_facts.nd) dgs_nil))) dgs_nil)))) (fun _ _ _ _ _ => dts_nil) (fun _ _ _ _ _ => (de_tup (da_cons de_int (da_cons (de_add (dt_var 10) (DE.t de_int)) (da_cons (de_neg (dt_var 11)) (da_cons (de_var 11) da_nil)))))) (sw_true rfl rfl rfl (by decide +kernel)))
      (dss_cons (ds_setDc 2 (own := [("span", 8)]) rfl sc_trace_facts.nd (DI.t (di_tup (de_fld "Trace" k_Trace n_Trace_spans (dt_var 0)))) (blkOk_by (N := N_trace_facts) (sc := defScope s_trace_facts) (by decide +kernel)) (by decide) (fun _ _ _ _ _ => (dg_name 8 sc_trace_facts.nd)) (fun _ _ _ _ _ => dts_nil) (fun _ _ _ _ _ => (de_ix (dt_var 8) (DE.t de_int))) (fun _ _ _ _ _ => (de_ix (dt_var 8) (DE.t de_int))) (sw_trueD rfl rfl rfl (by decide +kernel)))
      (dss_cons (ds_for PassesOwn.never rfl (di_tup (de_fld "Trace" k_Trace n_Trace_spans (dt_var 0))) (dg_tup rfl (dgs_cons (dg_name 3 sc_trace_facts.nd) (dgs_cons (dg_name 4 sc_trace_facts.nd) (dgs_cons (dg_name 5 sc_trace_facts.nd) (dgs_cons (dg_name 6 sc_trace_facts.nd) (dgs_cons (dg_name 7 sc_trace_facts.nd) dgs_nil)))))) (dss_cons (ds_if (db_isN (dt_var 6)) (dss_one (ds_ext 1 (df_call f__later (hr.mono (by decide)) (da_cons (de_var 0) (da_cons (de_tup (da_cons (de_var 3) (da_cons de_str da_nil))) (da_cons (de_tup (da_cons (de_var 3) (da_cons de_str da_nil))) (da_cons de_int da_nil))))))) dss_nil)
      (dss_one (ds_if (db_notN (dt_var 4)) (dss_cons (ds_set 9 sc_trace_facts.nd (de_if (db_cmp (op_eqAll hr) od_eq (dt_var 5) (DE.t (de_ix2 hr (dt_var 2) (dt_var 4)))) de_int (de_fld "Trace" k_Trace n_Trace_hop (dt_var 0))))
      (dss_cons (ds_ext 1 (df_call f__later (hr.mono (by decide)) (da_cons (de_var 0) (da_cons (de_tup (da_cons (de_var 4) (da_cons de_str da_nil))) (da_cons (de_tup (da_cons (de_var 3) (da_cons de_str da_nil))) (da_cons (de_var 9) da_nil))))))
      (dss_one (ds_ext 1 (df_call f__later (hr.mono (by decide)) (da_cons (de_var 0) (da_cons (de_tup (da_cons (de_var 3) (da_cons de_str da_nil))) (da_cons (de_tup (da_cons (de_var 4) (da_cons de_str da_nil))) (da_cons (de_var 9) da_nil))))))))) dss_nil))))
      (dss_one (ds_retO 1))))))
theorem bd_trace_facts (kV doc pm : Value) (an : Option Addr) (cdv ct : Value) (us : List Value) (hl : us.length = ["trace"].length) : bindArgs (PySem.W.fnOf "trace_facts" "trace_facts" (defArgs s_trace_facts) (defBody s_trace_facts) (defScope s_trace_facts) .none kV doc pm an cdv ct) ⟨us, []⟩ = pure ((["trace"] : List Str).zip us) := match us, hl with | [_], _ => rfl
theorem cal_trace_facts (F : Stands K mg "trace_facts" s_trace_facts) (f__later : CalF P w K mg base "_later" 1 4 mF__later) (k_Trace : Cls K (He.ga K "Trace")) (n_Trace_clocks : NoAttr K (He.ga K "Trace") "clocks") (n_Trace_spans : NoAttr K (He.ga K "Trace") "spans") (n_Trace_hop : NoAttr K (He.ga K "Trace") "hop") (h_enumerate : mg "enumerate" = none) : Cal P w K mg base "trace_facts" 2 1 m_trace_facts :=
  cal_of F bd_trace_facts fun F => fn_trace_facts F f__later k_Trace n_Trace_clocks n_Trace_spans n_Trace_hop h_enumerate
def mF_trace_facts : List D → Option (List D) := callF 1 12 b_trace_facts
theorem fnF_trace_facts {f : Addr} {fd : FuncData} (F : FunD K "trace_facts" "trace_facts" (defArgs s_trace_facts) (defBody s_trace_facts) (defScope s_trace_facts) [] [] f fd) (f__later : CalF P w K mg base "_later" 1 4 mF__later) (k_Trace : Cls K (He.ga K "Trace")) (n_Trace_clocks : NoAttr K (He.ga K "Trace") "clocks") (n_Trace_spans : NoAttr K (He.ga K "Trace") "spans") (n_Trace_hop : NoAttr K (He.ga K "Trace") "hop") (h_enumerate : mg "enumerate" = none) : FnOk P w K mg base CX0 2 f fd ["trace"] (spF K 1 mF_trace_facts) :=
  fnF_mk (N := N_trace_facts) (m := b_trace_facts) F sc_trace_facts rfl (fun cdv A outer s H E hr =>
      (dss_cons (ds_setLc 1 (own := [("number", 10), ("_", 7), ("error", 11)]) rfl sc_trace_facts.nd (DI.t (di_enumT h_enumerate (de_fld "Trace" k_Trace n_Trace_clocks (dt_var 0)))) (blkOk_by (N := N_trace_facts) (sc := defScope s_trace_facts) (by decide +kernel)) (by decide) (fun _ _ _ _ _ => (dg_tup rfl (dgs_cons (dg_name 10 sc_trace_facts.nd) (dgs_cons (dg_tup rfl (dgs_cons (dg_name 7 sc_trace_facts.nd) (dgs_cons (dg_name 11 sc_trace_facts.nd) dgs_nil))) dgs_nil)))) (fun _ _ _ _ _ => dts_nil) (fun _ _ _ _ _ => (de_tup (da_cons de_int (da_cons (de_add (dt_var 10) (DE.t de_int)) (da_cons (de_neg (dt_var 11)) (da_cons (de_var 11) da_nil)))))) (sw_true rfl rfl rfl (by decide +kernel)))
      (dss_cons (ds_setDc 2 (own := [("span", 8)]) rfl sc_trace_facts.nd (DI.t (di_tup (de_fld "Trace" k_Trace n_Trace_spans (dt_var 0)))) (blkOk_by (N := N_trace_facts) (sc := defScope s_trace_facts) (by decide +kernel)) (by decide) (fun _ _ _ _ _ => (dg_name 8 sc_trace_facts.nd)) (fun _ _ _ _ _ => dts_nil) (fun _ _ _ _ _ => (de_ix (dt_var 8) (DE.t de_int))) (fun _ _ _ _ _ => (de_ix (dt_var 8) (DE.t de_int))) (sw_trueD rfl rfl rfl (by decide +kernel)))
      (dss_cons (ds_for PassesOwn.never rfl (di_tup (de_fld "Trace" k_Trace n_Trace_spans (dt_var 0))) (dg_tup rfl (dgs_cons (dg_name 3 sc_trace_facts.nd) (dgs_cons (dg_name 4 sc_trace_facts.nd) (dgs_cons (dg_name 5 sc_trace_facts.nd) (dgs_cons (dg_name 6 sc_trace_facts.nd) (dgs_cons (dg_name 7 sc_trace_facts.nd) dgs_nil)))))) (dss_cons (ds_if (db_isN (dt_var 6)) (dss_one (ds_ext 1 (df_call f__later (hr.mono (by decide)) (da_cons (de_var 0) (da_cons (de_tup (da_cons (de_var 3) (da_cons de_str da_nil))) (da_cons (de_tup (da_cons (de_var 3) (da_cons de_str da_nil))) (da_cons de_int da_nil))))))) dss_nil)
      (dss_one (ds_if (db_notN (dt_var 4)) (dss_cons (ds_set 9 sc_trace_facts.nd (de_if (db_cmp (op_eqAll hr) od_eq (dt_var 5) (DE.t (de_ix2 hr (dt_var 2) (dt_var 4)))) de_int (de_fld "Trace" k_Trace n_Trace_hop (dt_var 0))))
      (dss_cons (ds_ext 1 (df_call f__later (hr.mono (by decide)) (da_cons (de_var 0) (da_cons (de_tup (da_cons (de_var 4) (da_cons de_str da_nil))) (da_cons (de_tup (da_cons (de_var 3) (da_cons de_str da_nil))) (da_cons (de_var 9) da_nil))))))
      (dss_one (ds_ext 1 (df_call f__later (hr.mono (by decide)) (da_cons (de_var 0) (da_cons (de_tup (da_cons (de_var 3) (da_cons de_str da_nil))) (da_cons (de_tup (da_cons (de_var 4) (da_cons de_str da_nil))) (da_cons (de_var 9) da_nil))))))))) dss_nil))))
      (dss_one (ds_retO 1))))))
theorem calF_trace_facts (F : Stands K mg "trace_facts" s_trace_facts) (f__later : CalF P w K mg base "_later" 1 4 mF__later) (k_Trace : Cls K (He.ga K "Trace")) (n_Trace_clocks : NoAttr K (He.ga K "Trace") "clocks") (n_Trace_spans : NoAttr K (He.ga K "Trace") "spans") (n_Trace_hop : NoAttr K (He.ga K "Trace") "hop") (h_enumerate : mg "enumerate" = none) : CalF P w K mg base "trace_facts" 2 1 mF_trace_facts :=
  calF_of F bd_trace_facts fun F => fnF_trace_facts F f__later k_Trace n_Trace_clocks n_Trace_spans n_Trace_hop h_enumerate

abbrev s__law_cell : Stmt := topS 22
abbrev N__law_cell : List Str := ["script", "at", "mixed", "cell"]
theorem sc__law_cell : FnScope N__law_cell ["script", "at"] (defScope s__law_cell) := ⟨rfl, rfl, rfl, by decide +kernel, rfl, by decide +kernel, by decide +kernel⟩
def b__law_cell : En → Option Out :=
      (mSeq (mIfS (fun E => ((mBin (intOp fun i j => .bl (decide (i < j))) (mVarT 1) (mUn lenD (mVarT 0))) E).bind blOf) (mRet (mUn intD (mBin ixD (mVarT 0) (mVarT 1)))) mNext)
      (mSeq (mSet 2 (mBin addD (mC (.int 11)) (mBin (intOpC mulOk fun i j => .int (i * j)) (mC (.int 101)) (mVarT 1))))
      (mSeq (mFor (fun E => ((mVar 0) E).bind lstOf) (gM 3) (mSet 2 (mBin (intOpC (fun _ j => decide (0 < j)) fun i j => .int (i % j)) (mUn intD (mBin addD (mBin (intOpC mulOk fun i j => .int (i * j)) (mVarT 2) (mC (.int 31))) (mVarT 3))) (mC (.int 1000000007)))))
      (mRet (mVarT 2)))))
def m__law_cell : List D → Option D := callM 2 4 b__law_cell
theorem fn__law_cell {f : Addr} {fd : FuncData} (F : FunD K "_law_cell" "_law_cell" (defArgs s__law_cell) (defBody s__law_cell) (defScope s__law_cell) [] [] f fd) (h_len : mg "len" = none) (h_int : mg "int" = none) : FnOk P w K mg base CX0 1 f fd ["script", "at"] (spD K 2 m__law_cell) :=
  fn_mk (N := N__law_cell) (m := b__law_cell) F sc__law_cell rfl (fun cdv A outer s H E hr =>
      (dss_cons (ds_if (db_cmp op_lt od_lt (dt_var 1) (DE.t (de_len h_len (dt_var 0)))) (dss_one (ds_ret (DE.t (de_int1 h_int (DE.t (de_ix (dt_var 0) (dt_var 1))))))) dss_nil)
      (dss_cons (ds_set 2 sc__law_cell.nd (de_add (DE.t de_int) (DE.t (de_mul (DE.t de_int) (dt_var 1)))))
      (dss_cons (ds_for PassesOwn.never rfl (di_list (de_var 0)) (dg_name 3 sc__law_cell.nd) (dss_one (ds_set 2 sc__law_cell.nd (de_mod (DE.t (de_int1 h_int (DE.t (de_add (DE.t (de_mul (dt_var 2) (DE.t de_int))) (dt_var 3))))) (DE.t de_int)))))
      (dss_one (ds_ret (dt_var 2)))))))
theorem bd__law_cell (kV doc pm : Value) (an : Option Addr) (cdv ct : Value) (us : List Value) (hl : us.length = ["script", "at"].length) : bindArgs (PySem.W.fnOf "_law_cell" "_law_cell" (defArgs s__law_cell) (defBody s__law_cell) (defScope s__law_cell) .none kV doc pm an cdv ct) ⟨us, []⟩ = pure ((["script", "at"] : List Str).zip us) := match us, hl with | [_, _], _ => rfl
theorem cal__law_cell (F : Stands K mg "_law_cell" s__law_cell) (h_len : mg "len" = none) (h_int : mg "int" = none) : Cal P w K mg base "_law_cell" 1 2 m__law_cell :=
  cal_of F bd__law_cell fun F => fn__law_cell F h_len h_int

abbrev s__law_draw : Stmt := topS 23
abbrev N__law_draw : List Str := ["script", "at", "k", "size", "cell", "mixed", "rest", "turn"]
theorem sc__law_draw : FnScope N__law_draw ["script", "at", "k", "size"] (defScope s__law_draw) := ⟨rfl, rfl, rfl, by decide +kernel, rfl, by decide +kernel, by decide +kernel⟩
def b__law_draw : En → Option Out :=
      (mSeq (mSet 4 (mCall 2 m__law_cell (mCons (mVar 0) (mCons (mVar 1) mNil))))
      (mSeq (mIfS (fun E => ((mBin (intOp fun i j => .bl (decide (j ≤ i))) (mVarT 4) (mBin (intOpC powOk fun i j => .int (i ^ j.toNat)) (mC (.int 10)) (mC (.int 18)))) E).bind blOf) (mSeq (mSet 6 (mVar 4))
      (mSeq (mFor (fun E => ((mVarT 2) E).bind rg1) (gM 7) (mSet 6 (mBin (intOpC divOk fun i j => .int (i / j)) (mVarT 6) (mC (.int 1000003)))))
      (mIfS (fun E => ((mBin (intOp fun i j => .bl (decide (j < i))) (mVarT 6) (mC (.int 0))) E).bind blOf) (mRet (mBin (intOpC (fun _ j => decide (0 < j)) fun i j => .int (i % j)) (mBin (intOpC (fun _ j => decide (0 < j)) fun i j => .int (i % j)) (mUn intD (mVarT 6)) (mC (.int 1000003))) (mVarT 3))) mNext))) mNext)
      (mSeq (mSet 5 (mBin (intOpC (fun _ j => decide (0 < j)) fun i j => .int (i % j)) (mUn intD (mBin addD (mBin addD (mVarT 4) (mBin (intOpC mulOk fun i j => .int (i * j)) (mC (.int 7919)) (mVarT 2))) (mC (.int 13)))) (mC (.int 2147483647))))
      (mSeq (mSet 5 (mBin (intOpC (fun _ j => decide (0 < j)) fun i j => .int (i % j)) (mUn intD (mBin (intOpC mulOk fun i j => .int (i * j)) (mVarT 5) (mBin addD (mVarT 5) (mC (.int 48271))))) (mC (.int 2147483629))))
      (mSeq (mSet 5 (mBin (intOpC (fun _ j => decide (0 < j)) fun i j => .int (i % j)) (mUn intD (mBin addD (mBin (intOpC mulOk fun i j => .int (i * j)) (mVarT 5) (mBin addD (mVarT 5) (mC (.int 69621)))) (mBin (intOpC mulOk fun i j => .int (i * j)) (mC (.int 31)) (mVarT 2)))) (mC (.int 2147483647))))
      (mRet (mBin (intOpC (fun _ j => decide (0 < j)) fun i j => .int (i % j)) (mUn intD (mBin (intOpC divOk fun i j => .int (i / j)) (mVarT 5) (mC (.int 9)))) (mVarT 3))))))))
def m__law_draw : List D → Option D := callM 4 8 b__law_draw
theorem fn__law_draw {f : Addr} {fd : FuncData} (F : FunD K "_law_draw" "_law_draw" (defArgs s__law_draw) (defBody s__law_draw) (defScope s__law_draw) [] [] f fd) (c__law_cell : Cal P w K mg base "_law_cell" 1 2 m__law_cell) (h_range : mg "range" = none) (h_int : mg "int" = none) : FnOk P w K mg base CX0 2 f fd ["script", "at", "k", "size"] (spD K 4 m__law_draw) :=
  fn_mk (N := N__law_draw) (m := b__law_draw) F sc__law_draw rfl (fun cdv A outer s H E hr =>
      (dss_cons (ds_set 4 sc__law_draw.nd (de_call c__law_cell (hr.mono (by decide)) (da_cons (de_var 0) (da_cons (de_var 1) da_nil))))
      (dss_cons (ds_if (db_cmp op_ge od_ge (dt_var 4) (DE.t (de_pow (DE.t de_int) (DE.t de_int)))) (dss_cons (ds_set 6 sc__law_draw.nd (de_var 4))
      (dss_cons (ds_for PassesOwn.never rfl (di_range1 h_range (dt_var 2)) (dg_name 7 sc__law_draw.nd) (dss_one (ds_set 6 sc__law_draw.nd (de_fdiv (dt_var 6) (DE.t de_int)))))
      (dss_one (ds_if (db_cmp op_gt od_gt (dt_var 6) (DE.t de_int)) (dss_one (ds_ret (DE.t (de_mod (DE.t (de_mod (DE.t (de_int1 h_int (dt_var 6))) (DE.t de_int))) (dt_var 3))))) dss_nil)))) dss_nil)
      (dss_cons (ds_set 5 sc__law_draw.nd (de_mod (DE.t (de_int1 h_int (DE.t (de_add (DE.t (de_add (dt_var 4) (DE.t (de_mul (DE.t de_int) (dt_var 2))))) (DE.t de_int))))) (DE.t de_int)))
      (dss_cons (ds_set 5 sc__law_draw.nd (de_mod (DE.t (de_int1 h_int (DE.t (de_mul (dt_var 5) (DE.t (de_add (dt_var 5) (DE.t de_int))))))) (DE.t de_int)))
      (dss_cons (ds_set 5 sc__law_draw.nd (de_mod (DE.t (de_int1 h_int (DE.t (de_add (DE.t (de_mul (dt_var 5) (DE.t (de_add (dt_var 5) (DE.t de_int))))) (DE.t (de_mul (DE.t de_int) (dt_var 2))))))) (DE.t de_int)))
      (dss_one (ds_ret (DE.t (de_mod (DE.t (de_int1 h_int (DE.t (de_fdiv (dt_var 5) (DE.t de_int))))) (dt_var 3)))))))))))
theorem bd__law_draw (kV doc pm : Value) (an : Option Addr) (cdv ct : Value) (us : List Value) (hl : us.length = ["script", "at", "k", "size"].length) : bindArgs (PySem.W.fnOf "_law_draw" "_law_draw" (defArgs s__law_draw) (defBody s__law_draw) (defScope s__law_draw) .none kV doc pm an cdv ct) ⟨us, []⟩ = pure ((["script", "at", "k", "size"] : List Str).zip us) := match us, hl with | [_, _, _, _], _ => rfl
theorem cal__law_draw (F : Stands K mg "_law_draw" s__law_draw) (c__law_cell : Cal P w K mg base "_law_cell" 1 2 m__law_cell) (h_range : mg "range" = none) (h_int : mg "int" = none) : Cal P w K mg base "_law_draw" 2 4 m__law_draw :=
  cal_of F bd__law_draw fun F => fn__law_draw F c__law_cell h_range h_int

abbrev s__law_names : Stmt := topS 24
abbrev N__law_names : List Str := ["script", "at", "count", "special", "common", "shift", "step", "alike", "names", "k", "key", "width", "spot", "name", "j"]
theorem sc__law_names : FnScope N__law_names ["script", "at", "count"] (defScope s__law_names) := ⟨rfl, rfl, rfl, by decide +kernel, rfl, by decide +kernel, by decide +kernel⟩
def b__law_names : En → Option Out :=
      (mSeq (mSet 3 (mC (.str "opqrsuvwxyz")))
      (mSeq (mSet 4 (mC (.str "abcdefghijklm0123456789")))
      (mSeq (mSet 5 (mCall 4 m__law_draw (mCons (mVar 0) (mCons (mVar 1) (mCons (mC (.int 0)) (mCons (mC (.int 11)) mNil))))))
      (mSeq (mSet 6 (mBin addD (mC (.int 1)) (mCall 4 m__law_draw (mCons (mVar 0) (mCons (mVar 1) (mCons (mC (.int 1)) (mCons (mC (.int 10)) mNil)))))))
      (mSeq (mSet 7 (mBin eqD (mCall 4 m__law_draw (mCons (mVar 0) (mCons (mVar 1) (mCons (mC (.int 2)) (mCons (mC (.int 2)) mNil))))) (mC (.int 0))))
      (mSeq (mSetO 8 (mLst mNil))
      (mSeq (mFor (fun E => ((mVarT 2) E).bind rg1) (gM 9) (mSeq (mSet 10 (mC (.int 3)))
      (mSeq (mIfS (mNot (fun E => ((mVarT 7) E).bind truD)) (mSet 10 (mBin addD (mC (.int 3)) (mBin (intOpC mulOk fun i j => .int (i * j)) (mC (.int 16)) (mBin addD (mVarT 9) (mC (.int 1)))))) mNext)
      (mSeq (mSet 11 (mBin addD (mC (.int 1)) (mCall 4 m__law_draw (mCons (mVar 0) (mCons (mVar 1) (mCons (mVar 10) (mCons (mC (.int 12)) mNil)))))))
      (mSeq (mSet 12 (mCall 4 m__law_draw (mCons (mVar 0) (mCons (mVar 1) (mCons (mBin addD (mVarT 10) (mC (.int 1))) (mCons (mVar 11) mNil))))))
      (mSeq (mSet 13 (mC (.str "")))
      (mSeq (mFor (fun E => ((mVarT 11) E).bind rg1) (gM 14) (mIfS (fun E => ((mBin eqD (mVarT 14) (mVarT 12)) E).bind blOf) (mSet 13 (mBin addD (mVarT 13) (mBin ixD (mVarT 3) (mBin (intOpC (fun _ j => decide (0 < j)) fun i j => .int (i % j)) (mUn intD (mBin addD (mBin (intOpC mulOk fun i j => .int (i * j)) (mVarT 9) (mVarT 6)) (mVarT 5))) (mC (.int 11)))))) (mIfS (fun E => ((mBin eqD (mVarT 14) (mC (.int 0))) E).bind blOf) (mSet 13 (mBin addD (mVarT 13) (mBin ixD (mVarT 4) (mCall 4 m__law_draw (mCons (mVar 0) (mCons (mVar 1) (mCons (mBin addD (mVarT 10) (mC (.int 2))) (mCons (mC (.int 13)) mNil)))))))) (mSet 13 (mBin addD (mVarT 13) (mBin ixD (mVarT 4) (mCall 4 m__law_draw (mCons (mVar 0) (mCons (mVar 1) (mCons (mBin addD (mBin addD (mVarT 10) (mC (.int 2))) (mVarT 14)) (mCons (mC (.int 23)) mNil)))))))))))
      (mApp 8 (mVar 13)))))))))
      (mRetO 8))))))))
def m__law_names : List D → Option D := callM 3 15 b__law_names
theorem fn__law_names {f : Addr} {fd : FuncData} (F : FunD K "_law_names" "_law_names" (defArgs s__law_names) (defBody s__law_names) (defScope s__law_names) [] [] f fd) (c__law_draw : Cal P w K mg base "_law_draw" 2 4 m__law_draw) (h_range : mg "range" = none) (h_int : mg "int" = none) : FnOk P w K mg base CX0 3 f fd ["script", "at", "count"] (spD K 3 m__law_names) :=
  fn_mk (N := N__law_names) (m := b__law_names) F sc__law_names rfl (fun cdv A outer s H E hr =>
      (dss_cons (ds_set 3 sc__law_names.nd de_str)
      (dss_cons (ds_set 4 sc__law_names.nd de_str)
      (dss_cons (ds_set 5 sc__law_names.nd (de_call c__law_draw (hr.mono (by decide)) (da_cons (de_var 0) (da_cons (de_var 1) (da_cons de_int (da_cons de_int da_nil))))))
      (dss_cons (ds_set 6 sc__law_names.nd (de_add (DE.t de_int) (DE.t (de_call c__law_draw (hr.mono (by decide)) (da_cons (de_var 0) (da_cons (de_var 1) (da_cons de_int (da_cons de_int da_nil))))))))
      (dss_cons (ds_set 7 sc__law_names.nd (de_cmp (op_eqAll hr) od_eq (DE.t (de_call c__law_draw (hr.mono (by decide)) (da_cons (de_var 0) (da_cons (de_var 1) (da_cons de_int (da_cons de_int da_nil)))))) (DE.t de_int)))
      (dss_cons (ds_setO 8 sc__law_names.nd (df_lst da_nil))
      (dss_cons (ds_for PassesOwn.never rfl (di_range1 h_range (dt_var 2)) (dg_name 9 sc__law_names.nd) (dss_cons (ds_set 10 sc__law_names.nd de_int)
      (dss_cons (ds_if (db_not (db_tru (dt_var 7))) (dss_one (ds_set 10 sc__law_names.nd (de_add (DE.t de_int) (DE.t (de_mul (DE.t de_int) (DE.t (de_add (dt_var 9) (DE.t de_int)))))))) dss_nil)
      (dss_cons (ds_set 11 sc__law_names.nd (de_add (DE.t de_int) (DE.t (de_call c__law_draw (hr.mono (by decide)) (da_cons (de_var 0) (da_cons (de_var 1) (da_cons (de_var 10) (da_cons de_int da_nil))))))))
      (dss_cons (ds_set 12 sc__law_names.nd (de_call c__law_draw (hr.mono (by decide)) (da_cons (de_var 0) (da_cons (de_var 1) (da_cons (de_add (dt_var 10) (DE.t de_int)) (da_cons (de_var 11) da_nil))))))
      (dss_cons (ds_set 13 sc__law_names.nd de_str)
      (dss_cons (ds_for PassesOwn.never rfl (di_range1 h_range (dt_var 11)) (dg_name 14 sc__law_names.nd) (dss_one (ds_if (db_cmp (op_eqAll hr) od_eq (dt_var 14) (dt_var 12)) (dss_one (ds_set 13 sc__law_names.nd (de_add (dt_var 13) (DE.t (de_ix (dt_var 3) (DE.t (de_mod (DE.t (de_int1 h_int (DE.t (de_add (DE.t (de_mul (dt_var 9) (dt_var 6))) (dt_var 5))))) (DE.t de_int)))))))) (dss_one (ds_if (db_cmp (op_eqAll hr) od_eq (dt_var 14) (DE.t de_int)) (dss_one (ds_set 13 sc__law_names.nd (de_add (dt_var 13) (DE.t (de_ix (dt_var 4) (DE.t (de_call c__law_draw (hr.mono (by decide)) (da_cons (de_var 0) (da_cons (de_var 1) (da_cons (de_add (dt_var 10) (DE.t de_int)) (da_cons de_int da_nil))))))))))) (dss_one (ds_set 13 sc__law_names.nd (de_add (dt_var 13) (DE.t (de_ix (dt_var 4) (DE.t (de_call c__law_draw (hr.mono (by decide)) (da_cons (de_var 0) (da_cons (de_var 1) (da_cons (de_add (DE.t (de_add (dt_var 10) (DE.t de_int))) (dt_var 14)) (da_cons de_int da_nil))))))))))))))))
      (dss_one (ds_app 8 (de_var 13))))))))))
      (dss_one (ds_retO 8))))))))))
theorem bd__law_names (kV doc pm : Value) (an : Option Addr) (cdv ct : Value) (us : List Value) (hl : us.length = ["script", "at", "count"].length) : bindArgs (PySem.W.fnOf "_law_names" "_law_names" (defArgs s__law_names) (defBody s__law_names) (defScope s__law_names) .none kV doc pm an cdv ct) ⟨us, []⟩ = pure ((["script", "at", "count"] : List Str).zip us) := match us, hl with | [_, _, _], _ => rfl
theorem cal__law_names (F : Stands K mg "_law_names" s__law_names) (c__law_draw : Cal P w K mg base "_law_draw" 2 4 m__law_draw) (h_range : mg "range" = none) (h_int : mg "int" = none) : Cal P w K mg base "_law_names" 3 3 m__law_names :=
  cal_of F bd__law_names fun F => fn__law_names F c__law_draw h_range h_int
def mF__law_names : List D → Option (List D) := callF 3 15 b__law_names
theorem fnF__law_names {f : Addr} {fd : FuncData} (F : FunD K "_law_names" "_law_names" (defArgs s__law_names) (defBody s__law_names) (defScope s__law_names) [] [] f fd) (c__law_draw : Cal P w K mg base "_law_draw" 2 4 m__law_draw) (h_range : mg "range" = none) (h_int : mg "int" = none) : FnOk P w K mg base CX0 3 f fd ["script", "at", "count"] (spF K 3 mF__law_names) :=
  fnF_mk (N := N__law_names) (m := b__law_names) F sc__law_names rfl (fun cdv A outer s H E hr =>
      (dss_cons (ds_set 3 sc__law_names.nd de_str)
      (dss_cons (ds_set 4 sc__law_names.nd de_str)
      (dss_cons (ds_set 5 sc__law_names.nd (de_call c__law_draw (hr.mono (by decide)) (da_cons (de_var 0) (da_cons (de_var 1) (da_cons de_int (da_cons de_int da_nil))))))
      (dss_cons (ds_set 6 sc__law_names.nd (de_add (DE.t de_int) (DE.t (de_call c__law_draw (hr.mono (by decide)) (da_cons (de_var 0) (da_cons (de_var 1) (da_cons de_int (da_cons de_int da_nil))))))))
      (dss_cons (ds_set 7 sc__law_names.nd (de_cmp (op_eqAll hr) od_eq (DE.t (de_call c__law_draw (hr.mono (by decide)) (da_cons (de_var 0) (da_cons (de_var 1) (da_cons de_int (da_cons de_int da_nil)))))) (DE.t de_int)))
      (dss_cons (ds_setO 8 sc__law_names.nd (df_lst da_nil))
      (dss_cons (ds_for PassesOwn.never rfl (di_range1 h_range (dt_var 2)) (dg_name 9 sc__law_names.nd) (dss_cons (ds_set 10 sc__law_names.nd de_int)
      (dss_cons (ds_if (db_not (db_tru (dt_var 7))) (dss_one (ds_set 10 sc__law_names.nd (de_add (DE.t de_int) (DE.t (de_mul (DE.t de_int) (DE.t (de_add (dt_var 9) (DE.t de_int)))))))) dss_nil)
      (dss_cons (ds_set 11 sc__law_names.nd (de_add (DE.t de_int) (DE.t (de_call c__law_draw (hr.mono (by decide)) (da_cons (de_var 0) (da_cons (de_var 1) (da_cons (de_var 10) (da_cons de_int da_nil))))))))
      (dss_cons (ds_set 12 sc__law_names.nd (de_call c__law_draw (hr.mono (by decide)) (da_cons (de_var 0) (da_cons (de_var 1) (da_cons (de_add (dt_var 10) (DE.t de_int)) (da_cons (de_var 11) da_nil))))))
      (dss_cons (ds_set 13 sc__law_names.nd de_str)
      (dss_cons (ds_for PassesOwn.never rfl (di_range1 h_range (dt_var 11)) (dg_name 14 sc__law_names.nd) (dss_one (ds_if (db_cmp (op_eqAll hr) od_eq (dt_var 14) (dt_var 12)) (dss_one (ds_set 13 sc__law_names.nd (de_add (dt_var 13) (DE.t (de_ix (dt_var 3) (DE.t (de_mod (DE.t (de_int1 h_int (DE.t (de_add (DE.t (de_mul (dt_var 9) (dt_var 6))) (dt_var 5))))) (DE.t de_int)))))))) (dss_one (ds_if (db_cmp (op_eqAll hr) od_eq (dt_var 14) (DE.t de_int)) (dss_one (ds_set 13 sc__law_names.nd (de_add (dt_var 13) (DE.t (de_ix (dt_var 4) (DE.t (de_call c__law_draw (hr.mono (by decide)) (da_cons (de_var 0) (da_cons (de_var 1) (da_cons (de_add (dt_var 10) (DE.t de_int)) (da_cons de_int da_nil))))))))))) (dss_one (ds_set 13 sc__law_names.nd (de_add (dt_var 13) (DE.t (de_ix (dt_var 4) (DE.t (de_call c__law_draw (hr.mono (by decide)) (da_cons (de_var 0) (da_cons (de_var 1) (da_cons (de_add (DE.t (de_add (dt_var 10) (DE.t de_int))) (dt_var 14)) (da_cons de_int da_nil))))))))))))))))
      (dss_one (ds_app 8 (de_var 13))))))))))
      (dss_one (ds_retO 8))))))))))
theorem calF__law_names (F : Stands K mg "_law_names" s__law_names) (c__law_draw : Cal P w K mg base "_law_draw" 2 4 m__law_draw) (h_range : mg "range" = none) (h_int : mg "int" = none) : CalF P w K mg base "_law_names" 3 3 mF__law_names :=
  calF_of F bd__law_names fun F => fnF__law_names F c__law_draw h_range h_int

abbrev s__law_is_number : Stmt := topS 25
abbrev N__law_is_number : List Str := ["value"]
theorem sc__law_is_number : FnScope N__law_is_number ["value"] (defScope s__law_is_number) := ⟨rfl, rfl, rfl, by decide +kernel, rfl, by decide +kernel, by decide +kernel⟩
def b__law_is_number : En → Option Out :=
      (mRet (mAndV (mUn (isiD "int") (mVarT 0)) (mUn (fun d => (truD d).map fun k => .bl (!k)) (mUn (isiD "bool") (mVarT 0)))))
def m__law_is_number : List D → Option D := callM 1 1 b__law_is_number
theorem fn__law_is_number {f : Addr} {fd : FuncData} (F : FunD K "_law_is_number" "_law_is_number" (defArgs s__law_is_number) (defBody s__law_is_number) (defScope s__law_is_number) [] [] f fd) (h_isinstance : mg "isinstance" = none) (h_int : mg "int" = none) (h_bool : mg "bool" = none) : FnOk P w K mg base CX0 1 f fd ["value"] (spD K 1 m__law_is_number) :=
  fn_mk (N := N__law_is_number) (m := b__law_is_number) F sc__law_is_number rfl (fun cdv A outer s H E hr =>
      (dss_one (ds_ret (DE.t (de_and (de_isi (T' := "int") h_isinstance h_int boot_int (dt_var 0)) (de_one (de_not (DE.t (de_isi (T' := "bool") h_isinstance h_bool (by decide +kernel) (dt_var 0))))))))))
theorem bd__law_is_number (kV doc pm : Value) (an : Option Addr) (cdv ct : Value) (us : List Value) (hl : us.length = ["value"].length) : bindArgs (PySem.W.fnOf "_law_is_number" "_law_is_number" (defArgs s__law_is_number) (defBody s__law_is_number) (defScope s__law_is_number) .none kV doc pm an cdv ct) ⟨us, []⟩ = pure ((["value"] : List Str).zip us) := match us, hl with | [_], _ => rfl
theorem cal__law_is_number (F : Stands K mg "_law_is_number" s__law_is_number) (h_isinstance : mg "isinstance" = none) (h_int : mg "int" = none) (h_bool : mg "bool" = none) : Cal P w K mg base "_law_is_number" 1 1 m__law_is_number :=
  cal_of F bd__law_is_number fun F => fn__law_is_number F h_isinstance h_int h_bool

abbrev s__law_same : Stmt := topS 26
abbrev N__law_same : List Str := ["told", "due", "k"]
theorem sc__law_same : FnScope N__law_same ["told", "due"] (defScope s__law_same) := ⟨rfl, rfl, rfl, by decide +kernel, rfl, by decide +kernel, by decide +kernel⟩
def b__law_same (m__law_same : List D → Option D) : En → Option Out :=
      (mSeq (mIfS (fun E => ((mUn (isiT ["list", "tuple"]) (mVarT 1)) E).bind truD) (mSeq (mIfS (mOr (fun E => ((mBin neD (mUn (isiD "list") (mVarT 1)) (mUn (isiD "list") (mVarT 0))) E).bind blOf) (fun E => ((mBin neD (mUn (isiD "tuple") (mVarT 1)) (mUn (isiD "tuple") (mVarT 0))) E).bind blOf)) (mRet (mC (.bl false))) mNext)
      (mSeq (mIfS (fun E => ((mBin neD (mUn lenD (mVarT 0)) (mUn lenD (mVarT 1))) E).bind blOf) (mRet (mC (.bl false))) mNext)
      (mSeq (mFor (fun E => ((mUn lenD (mVarT 1)) E).bind rg1) (gM 2) (mIfS (mNot (fun E => ((mCall 2 m__law_same (mCons (mBin ixD (mVarT 0) (mVarT 2)) (mCons (mBin ixD (mVarT 1) (mVarT 2)) mNil))) E).bind truD)) (mRet (mC (.bl false))) mNext))
      (mRet (mC (.bl true)))))) mNext)
      (mSeq (mIfS (fun E => ((mVarT 1) E).map isN) (mRet (mUn (fun d => some (.bl (isN d))) (mVarT 0))) mNext)
      (mSeq (mIfS (fun E => ((mUn (isiD "str") (mVarT 1)) E).bind truD) (mRet (mAndV (mUn (isiD "str") (mVarT 0)) (mBin eqD (mVarT 0) (mVarT 1)))) mNext)
      (mRet (mAndV (mCall 1 m__law_is_number (mCons (mVar 0) mNil)) (mBin eqD (mVarT 0) (mVarT 1)))))))
def mr__law_same : Nat → List D → Option D
  | 0 => fun _ => none
  | j + 1 => callM 2 3 (b__law_same (mr__law_same j))
abbrev m__law_same : List D → Option D := mr__law_same 8
theorem bd__law_same (kV doc pm : Value) (an : Option Addr) (cdv ct : Value) (us : List Value) (hl : us.length = ["told", "due"].length) : bindArgs (PySem.W.fnOf "_law_same" "_law_same" (defArgs s__law_same) (defBody s__law_same) (defScope s__law_same) .none kV doc pm an cdv ct) ⟨us, []⟩ = pure ((["told", "due"] : List Str).zip us) := match us, hl with | [_, _], _ => rfl
theorem fnr__law_same (j : Nat) (mr : List D → Option D) {f : Addr} {fd : FuncData} (F : FunD K "_law_same" "_law_same" (defArgs s__law_same) (defBody s__law_same) (defScope s__law_same) [] [] f fd) (c__law_same : Cal P w K mg base "_law_same" (2 + j) 2 mr) (c__law_is_number : Cal P w K mg base "_law_is_number" 1 1 m__law_is_number) (h_isinstance : mg "isinstance" = none) (h_list : mg "list" = none) (h_tuple : mg "tuple" = none) (h_len : mg "len" = none) (h_range : mg "range" = none) (h_str : mg "str" = none) : FnOk P w K mg base CX0 (2 + j + 1) f fd ["told", "due"] (spD K 2 (callM 2 3 (b__law_same mr))) :=
  fn_mk (N := N__law_same) (m := b__law_same mr) F sc__law_same rfl (fun cdv A outer s H E hr =>
      (dss_cons (ds_if (db_tru (DE.t (de_isiT (T1' := "list") (T2' := "tuple") h_isinstance h_list h_tuple (by decide +kernel) (by decide +kernel) (dt_var 1)))) (dss_cons (ds_if (DW.toB (dw_or (db_cmp (op_neAll hr) od_ne (DE.t (de_isi (T' := "list") h_isinstance h_list (by decide +kernel) (dt_var 1))) (DE.t (de_isi (T' := "list") h_isinstance h_list (by decide +kernel) (dt_var 0)))) (dw_or1 (db_cmp (op_neAll hr) od_ne (DE.t (de_isi (T' := "tuple") h_isinstance h_tuple (by decide +kernel) (dt_var 1))) (DE.t (de_isi (T' := "tuple") h_isinstance h_tuple (by decide +kernel) (dt_var 0))))))) (dss_one (ds_ret (DE.t de_bl))) dss_nil)
      (dss_cons (ds_if (db_cmp (op_neAll hr) od_ne (DE.t (de_len h_len (dt_var 0))) (DE.t (de_len h_len (dt_var 1)))) (dss_one (ds_ret (DE.t de_bl))) dss_nil)
      (dss_cons (ds_for PassesOwn.never rfl (di_range1 h_range (DE.t (de_len h_len (dt_var 1)))) (dg_name 2 sc__law_same.nd) (dss_one (ds_if (db_not (db_tru (DE.t (de_call c__law_same (hr.mono (by omega)) (da_cons (de_ix (dt_var 0) (dt_var 2)) (da_cons (de_ix (dt_var 1) (dt_var 2)) da_nil)))))) (dss_one (ds_ret (DE.t de_bl))) dss_nil)))
      (dss_one (ds_ret (DE.t de_bl)))))) dss_nil)
      (dss_cons (ds_if (db_isN (dt_var 1)) (dss_one (ds_ret (DE.t (de_isN (dt_var 0))))) dss_nil)
      (dss_cons (ds_if (db_tru (DE.t (de_isi (T' := "str") h_isinstance h_str (by decide +kernel) (dt_var 1)))) (dss_one (ds_ret (DE.t (de_and (de_isi (T' := "str") h_isinstance h_str (by decide +kernel) (dt_var 0)) (de_one (de_cmp (op_eqAll hr) od_eq (dt_var 0) (dt_var 1))))))) dss_nil)
      (dss_one (ds_ret (DE.t (de_and (de_call c__law_is_number (hr.mono (by omega)) (da_cons (de_var 0) da_nil)) (de_one (de_cmp (op_eqAll hr) od_eq (dt_var 0) (dt_var 1)))))))))))
theorem calr__law_same (F : Stands K mg "_law_same" s__law_same) (c__law_is_number : Cal P w K mg base "_law_is_number" 1 1 m__law_is_number) (h_isinstance : mg "isinstance" = none) (h_list : mg "list" = none) (h_tuple : mg "tuple" = none) (h_len : mg "len" = none) (h_range : mg "range" = none) (h_str : mg "str" = none) : ∀ j, Cal P w K mg base "_law_same" (2 + j) 2 (mr__law_same j)
  | 0 => cal_of F bd__law_same fun F => (fn_none F sc__law_same rfl : FnOk P w K mg base CX0 (1 + 1) _ _ ["told", "due"] (spD K 2 fun _ => none))
  | j + 1 => cal_of F bd__law_same fun G => fnr__law_same j (mr__law_same j) G (calr__law_same F c__law_is_number h_isinstance h_list h_tuple h_len h_range h_str j) c__law_is_number h_isinstance h_list h_tuple h_len h_range h_str
theorem cal__law_same (F : Stands K mg "_law_same" s__law_same) (c__law_is_number : Cal P w K mg base "_law_is_number" 1 1 m__law_is_number) (h_isinstance : mg "isinstance" = none) (h_list : mg "list" = none) (h_tuple : mg "tuple" = none) (h_len : mg "len" = none) (h_range : mg "range" = none) (h_str : mg "str" = none) : Cal P w K mg base "_law_same" 10 2 m__law_same :=
  calr__law_same F c__law_is_number h_isinstance h_list h_tuple h_len h_range h_str 8

abbrev s__law_more_names : Stmt := topS 27
abbrev N__law_more_names : List Str := ["script", "at", "count", "names", "k", "name"]
theorem sc__law_more_names : FnScope N__law_more_names ["script", "at", "count"] (defScope s__law_more_names) := ⟨rfl, rfl, rfl, by decide +kernel, rfl, by decide +kernel, by decide +kernel⟩
def b__law_more_names : En → Option Out :=
      (mSeq (mSetO 3 (mCallF 3 mF__law_names (mCons (mVar 0) (mCons (mVar 1) (mCons (mBin minD (mVarT 2) (mC (.int 11))) mNil)))))
      (mSeq (mFor (fun E => ((mBin (intOp fun i j => .int (i - j)) (mVarT 2) (mUn lenD (mVarT 3))) E).bind rg1) (gM 4) (mSeq (mSet 5 (mBin ixD (mVarT 3) (mVarT 4)))
      (mIfS (fun E => ((mBin (intOp fun i j => .bl (decide (i < j))) (mUn lenD (mVarT 5)) (mC (.int 12))) E).bind blOf) (mApp 3 (mBin addD (mVarT 5) (mC (.str "t")))) (mIfS (fun E => ((mBin inDA (mBin ixD (mVarT 5) (mC (.int 0))) (mC (.str "opqrsuvwxyz"))) E).bind blOf) (mApp 3 (mBin addD (mBin addD (mBin ixD (mVarT 5) (mC (.int 0))) (mC (.str "t"))) (fun E => ((mVarT 5) E).bind fun x => ((fun E => ((mC (.int 2)) E).bind inOf) E).bind fun l => ((fun _ => some none) E).bind fun h => slS l h x))) (mApp 3 (mBin addD (mC (.str "t")) (fun E => ((mVarT 5) E).bind fun x => ((fun E => ((mC (.int 1)) E).bind inOf) E).bind fun l => ((fun _ => some none) E).bind fun h => slS l h x)))))))
      (mRetO 3)))
def m__law_more_names : List D → Option D := callM 3 6 b__law_more_names
theorem fn__law_more_names {f : Addr} {fd : FuncData} (F : FunD K "_law_more_names" "_law_more_names" (defArgs s__law_more_names) (defBody s__law_more_names) (defScope s__law_more_names) [] [] f fd) (f__law_names : CalF P w K mg base "_law_names" 3 3 mF__law_names) (h_min : mg "min" = none) (h_len : mg "len" = none) (h_range : mg "range" = none) : FnOk P w K mg base CX0 4 f fd ["script", "at", "count"] (spD K 3 m__law_more_names) :=
  fn_mk (N := N__law_more_names) (m := b__law_more_names) F sc__law_more_names rfl (fun cdv A outer s H E hr =>
      (dss_cons (ds_setO 3 sc__law_more_names.nd (df_call f__law_names (hr.mono (by decide)) (da_cons (de_var 0) (da_cons (de_var 1) (da_cons (de_min2 rfl h_min (dt_var 2) (DE.t de_int)) da_nil)))))
      (dss_cons (ds_for PassesOwn.never rfl (di_range1 h_range (DE.t (de_sub (dt_var 2) (DE.t (de_len h_len (dt_var 3)))))) (dg_name 4 sc__law_more_names.nd) (dss_cons (ds_set 5 sc__law_more_names.nd (de_ix (dt_var 3) (dt_var 4)))
      (dss_one (ds_if (db_cmp op_lt od_lt (DE.t (de_len h_len (dt_var 5))) (DE.t de_int)) (dss_one (ds_app 3 (de_add (dt_var 5) (DE.t de_str)))) (dss_one (ds_if (db_cmp op_inAll od_inA (DE.t (de_ix (dt_var 5) (DE.t de_int))) (DE.t de_str)) (dss_one (ds_app 3 (de_add (DE.t (de_add (DE.t (de_ix (dt_var 5) (DE.t de_int))) (DE.t de_str))) (DE.t (de_slS (dt_var 5) (do_some (DE.t de_int)) do_none))))) (dss_one (ds_app 3 (de_add (DE.t de_str) (DE.t (de_slS (dt_var 5) (do_some (DE.t de_int)) do_none)))))))))))
      (dss_one (ds_retO 3)))))
theorem bd__law_more_names (kV doc pm : Value) (an : Option Addr) (cdv ct : Value) (us : List Value) (hl : us.length = ["script", "at", "count"].length) : bindArgs (PySem.W.fnOf "_law_more_names" "_law_more_names" (defArgs s__law_more_names) (defBody s__law_more_names) (defScope s__law_more_names) .none kV doc pm an cdv ct) ⟨us, []⟩ = pure ((["script", "at", "count"] : List Str).zip us) := match us, hl with | [_, _, _], _ => rfl
theorem cal__law_more_names (F : Stands K mg "_law_more_names" s__law_more_names) (f__law_names : CalF P w K mg base "_law_names" 3 3 mF__law_names) (h_min : mg "min" = none) (h_len : mg "len" = none) (h_range : mg "range" = none) : Cal P w K mg base "_law_more_names" 4 3 m__law_more_names :=
  cal_of F bd__law_more_names fun F => fn__law_more_names F f__law_names h_min h_len h_range

abbrev s__law_clocks : Stmt := topS 28
abbrev N__law_clocks : List Str := ["script", "at", "count", "names", "clocks", "shifts", "k", "error", "kind", "shift"]
theorem sc__law_clocks : FnScope N__law_clocks ["script", "at", "count"] (defScope s__law_clocks) := ⟨rfl, rfl, rfl, by decide +kernel, rfl, by decide +kernel, by decide +kernel⟩
def b__law_clocks : En → Option Out :=
      (mSeq (mSet 3 (mCall 3 m__law_names (mCons (mVar 0) (mCons (mVar 1) (mCons (mVar 2) mNil)))))
      (mSeq (mSetO 4 (mLst mNil))
      (mSeq (mSetO 5 (mLst mNil))
      (mSeq (mFor (fun E => ((mVarT 2) E).bind rg1) (gM 6) (mSeq (mSet 7 (mCall 4 m__law_draw (mCons (mVar 0) (mCons (mBin addD (mVarT 1) (mC (.int 1))) (mCons (mBin (intOpC mulOk fun i j => .int (i * j)) (mC (.int 4)) (mVarT 6)) (mCons (mC (.int 10)) mNil))))))
      (mSeq (mSet 8 (mCall 4 m__law_draw (mCons (mVar 0) (mCons (mBin addD (mVarT 1) (mC (.int 1))) (mCons (mBin addD (mBin (intOpC mulOk fun i j => .int (i * j)) (mC (.int 4)) (mVarT 6)) (mC (.int 1))) (mCons (mC (.int 8)) mNil))))))
      (mSeq (mIfS (fun E => ((mBin (intOp fun i j => .bl (decide (i < j))) (mVarT 8) (mC (.int 3))) E).bind blOf) (mSet 7 (mC (.int 0))) mNext)
      (mSeq (mIfS (fun E => ((mBin eqD (mVarT 8) (mC (.int 3))) E).bind blOf) (mSet 7 (mCall 4 m__law_draw (mCons (mVar 0) (mCons (mBin addD (mVarT 1) (mC (.int 1))) (mCons (mBin (intOpC mulOk fun i j => .int (i * j)) (mC (.int 4)) (mVarT 6)) (mCons (mC (.int 1000001)) mNil)))))) mNext)
      (mSeq (mIfS (fun E => ((mBin eqD (mVarT 8) (mC (.int 4))) E).bind blOf) (mSet 7 (mC (.int 1000000))) mNext)
      (mSeq (mSet 9 (mCall 4 m__law_draw (mCons (mVar 0) (mCons (mBin addD (mVarT 1) (mC (.int 1))) (mCons (mBin addD (mBin (intOpC mulOk fun i j => .int (i * j)) (mC (.int 4)) (mVarT 6)) (mC (.int 2))) (mCons (mBin addD (mVarT 7) (mC (.int 1))) mNil))))))
      (mSeq (mIfS (fun E => ((mBin eqD (mCall 4 m__law_draw (mCons (mVar 0) (mCons (mBin addD (mVarT 1) (mC (.int 1))) (mCons (mBin addD (mBin (intOpC mulOk fun i j => .int (i * j)) (mC (.int 4)) (mVarT 6)) (mC (.int 3))) (mCons (mC (.int 2)) mNil))))) (mC (.int 0))) E).bind blOf) (mSet 9 (mUn negD (mVarT 9))) mNext)
      (mSeq (mApp 4 (mTup (mCons (mBin ixD (mVarT 3) (mVarT 6)) (mCons (mVar 7) mNil))))
      (mApp 5 (mVar 9)))))))))))
      (mFrz 5 (mFrz 4 (mRet (mTup (mCons (mVar 4) (mCons (mVar 5) mNil))))))))))
def m__law_clocks : List D → Option D := callM 3 10 b__law_clocks
theorem fn__law_clocks {f : Addr} {fd : FuncData} (F : FunD K "_law_clocks" "_law_clocks" (defArgs s__law_clocks) (defBody s__law_clocks) (defScope s__law_clocks) [] [] f fd) (c__law_names : Cal P w K mg base "_law_names" 3 3 m__law_names) (c__law_draw : Cal P w K mg base "_law_draw" 2 4 m__law_draw) (h_range : mg "range" = none) : FnOk P w K mg base CX0 4 f fd ["script", "at", "count"] (spD K 3 m__law_clocks) :=
  fn_mk (N := N__law_clocks) (m := b__law_clocks) F sc__law_clocks rfl (fun cdv A outer s H E hr =>
      (dss_cons (ds_set 3 sc__law_clocks.nd (de_call c__law_names (hr.mono (by decide)) (da_cons (de_var 0) (da_cons (de_var 1) (da_cons (de_var 2) da_nil)))))
      (dss_cons (ds_setO 4 sc__law_clocks.nd (df_lst da_nil))
      (dss_cons (ds_setO 5 sc__law_clocks.nd (df_lst da_nil))
      (dss_cons (ds_for PassesOwn.never rfl (di_range1 h_range (dt_var 2)) (dg_name 6 sc__law_clocks.nd) (dss_cons (ds_set 7 sc__law_clocks.nd (de_call c__law_draw (hr.mono (by decide)) (da_cons (de_var 0) (da_cons (de_add (dt_var 1) (DE.t de_int)) (da_cons (de_mul (DE.t de_int) (dt_var 6)) (da_cons de_int da_nil))))))
      (dss_cons (ds_set 8 sc__law_clocks.nd (de_call c__law_draw (hr.mono (by decide)) (da_cons (de_var 0) (da_cons (de_add (dt_var 1) (DE.t de_int)) (da_cons (de_add (DE.t (de_mul (DE.t de_int) (dt_var 6))) (DE.t de_int)) (da_cons de_int da_nil))))))
      (dss_cons (ds_if (db_cmp op_lt od_lt (dt_var 8) (DE.t de_int)) (dss_one (ds_set 7 sc__law_clocks.nd de_int)) dss_nil)
      (dss_cons (ds_if (db_cmp (op_eqAll hr) od_eq (dt_var 8) (DE.t de_int)) (dss_one (ds_set 7 sc__law_clocks.nd (de_call c__law_draw (hr.mono (by decide)) (da_cons (de_var 0) (da_cons (de_add (dt_var 1) (DE.t de_int)) (da_cons (de_mul (DE.t de_int) (dt_var 6)) (da_cons de_int da_nil))))))) dss_nil)
      (dss_cons (ds_if (db_cmp (op_eqAll hr) od_eq (dt_var 8) (DE.t de_int)) (dss_one (ds_set 7 sc__law_clocks.nd de_int)) dss_nil)
      (dss_cons (ds_set 9 sc__law_clocks.nd (de_call c__law_draw (hr.mono (by decide)) (da_cons (de_var 0) (da_cons (de_add (dt_var 1) (DE.t de_int)) (da_cons (de_add (DE.t (de_mul (DE.t de_int) (dt_var 6))) (DE.t de_int)) (da_cons (de_add (dt_var 7) (DE.t de_int)) da_nil))))))
      (dss_cons (ds_if (db_cmp (op_eqAll hr) od_eq (DE.t (de_call c__law_draw (hr.mono (by decide)) (da_cons (de_var 0) (da_cons (de_add (dt_var 1) (DE.t de_int)) (da_cons (de_add (DE.t (de_mul (DE.t de_int) (dt_var 6))) (DE.t de_int)) (da_cons de_int da_nil)))))) (DE.t de_int)) (dss_one (ds_set 9 sc__law_clocks.nd (de_neg (dt_var 9)))) dss_nil)
      (dss_cons (ds_app 4 (de_tup (da_cons (de_ix (dt_var 3) (dt_var 6)) (da_cons (de_var 7) da_nil))))
      (dss_one (ds_app 5 (de_var 9))))))))))))
      (dss_one (ds_frz 5 (ds_frz 4 (ds_ret (DE.t (de_tup (da_cons (de_var 4) (da_cons (de_var 5) da_nil)))))))))))))
theorem bd__law_clocks (kV doc pm : Value) (an : Option Addr) (cdv ct : Value) (us : List Value) (hl : us.length = ["script", "at", "count"].length) : bindArgs (PySem.W.fnOf "_law_clocks" "_law_clocks" (defArgs s__law_clocks) (defBody s__law_clocks) (defScope s__law_clocks) .none kV doc pm an cdv ct) ⟨us, []⟩ = pure ((["script", "at", "count"] : List Str).zip us) := match us, hl with | [_, _, _], _ => rfl
theorem cal__law_clocks (F : Stands K mg "_law_clocks" s__law_clocks) (c__law_names : Cal P w K mg base "_law_names" 3 3 m__law_names) (c__law_draw : Cal P w K mg base "_law_draw" 2 4 m__law_draw) (h_range : mg "range" = none) : Cal P w K mg base "_law_clocks" 4 3 m__law_clocks :=
  cal_of F bd__law_clocks fun F => fn__law_clocks F c__law_names c__law_draw h_range

abbrev s__law_number_of : Stmt := topS 29
abbrev N__law_number_of : List Str := ["names", "name", "k"]
theorem sc__law_number_of : FnScope N__law_number_of ["names", "name"] (defScope s__law_number_of) := ⟨rfl, rfl, rfl, by decide +kernel, rfl, by decide +kernel, by decide +kernel⟩
def b__law_number_of : En → Option Out :=
      (mSeq (mFor (fun E => ((mUn lenD (mVarT 0)) E).bind rg1) (gM 2) (mIfS (fun E => ((mBin eqD (mBin ixD (mVarT 0) (mVarT 2)) (mVarT 1)) E).bind blOf) (mRet (mVarT 2)) mNext))
      (mRet (mUn negD (mC (.int 1)))))
def m__law_number_of : List D → Option D := callM 2 3 b__law_number_of
theorem fn__law_number_of {f : Addr} {fd : FuncData} (F : FunD K "_law_number_of" "_law_number_of" (defArgs s__law_number_of) (defBody s__law_number_of) (defScope s__law_number_of) [] [] f fd) (h_len : mg "len" = none) (h_range : mg "range" = none) : FnOk P w K mg base CX0 1 f fd ["names", "name"] (spD K 2 m__law_number_of) :=
  fn_mk (N := N__law_number_of) (m := b__law_number_of) F sc__law_number_of rfl (fun cdv A outer s H E hr =>
      (dss_cons (ds_for PassesOwn.never rfl (di_range1 h_range (DE.t (de_len h_len (dt_var 0)))) (dg_name 2 sc__law_number_of.nd) (dss_one (ds_if (db_cmp (op_eqAll hr) od_eq (DE.t (de_ix (dt_var 0) (dt_var 2))) (dt_var 1)) (dss_one (ds_ret (dt_var 2))) dss_nil)))
      (dss_one (ds_ret (DE.t (de_neg (DE.t de_int)))))))
theorem bd__law_number_of (kV doc pm : Value) (an : Option Addr) (cdv ct : Value) (us : List Value) (hl : us.length = ["names", "name"].length) : bindArgs (PySem.W.fnOf "_law_number_of" "_law_number_of" (defArgs s__law_number_of) (defBody s__law_number_of) (defScope s__law_number_of) .none kV doc pm an cdv ct) ⟨us, []⟩ = pure ((["names", "name"] : List Str).zip us) := match us, hl with | [_, _], _ => rfl
theorem cal__law_number_of (F : Stands K mg "_law_number_of" s__law_number_of) (h_len : mg "len" = none) (h_range : mg "range" = none) : Cal P w K mg base "_law_number_of" 1 2 m__law_number_of :=
  cal_of F bd__law_number_of fun F => fn__law_number_of F h_len h_range

abbrev s__law_places : Stmt := topS 30
abbrev N__law_places : List Str := ["clocks", "spans", "order", "free", "places", "span", "clock", "own"]
theorem sc__law_places : FnScope N__law_places ["clocks", "spans"] (defScope s__law_places) := ⟨rfl, rfl, rfl, by decide +kernel, rfl, by decide +kernel, by decide +kernel⟩
def b__law_places : En → Option Out :=
      (mSeq (mSet 2 (mList (mComp [6] (fun E => ((mVarT 0) E).bind lstOf) (gM 6) mYes (mBin ixD (mVarT 6) (mC (.int 0))))))
      (mSeq (mSet 3 (mBin addD (mC (.int 1)) (mUn lenD (mVarT 0))))
      (mSeq (mSetO 4 (mLst mNil))
      (mSeq (mFor (fun E => ((mVar 1) E).bind lstOf) (gM 5) (mIfS (fun E => ((mBin ixD (mVarT 5) (mC (.int 3))) E).map isN) (mSeq (mApp 4 (mTup (mCons (mVar 3) (mCons (mC (.int 0)) mNil))))
      (mSeq (mApp 4 (mTup (mCons (mBin addD (mVarT 3) (mC (.int 1))) (mCons (mC (.int 0)) mNil))))
      (mSet 3 (mBin addD (mVarT 3) (mC (.int 2)))))) (mSeq (mSet 7 (mBin addD (mC (.int 1)) (mCall 2 m__law_number_of (mCons (mVar 2) (mCons (mBin ixD (mVarT 5) (mC (.int 2))) mNil)))))
      (mSeq (mApp 4 (mTup (mCons (mVar 7) (mCons (mBin ixD (mVarT 5) (mC (.int 3))) mNil))))
      (mApp 4 (mTup (mCons (mVar 7) (mCons (mBin ixD (mVarT 5) (mC (.int 4))) mNil))))))))
      (mRetO 4)))))
def m__law_places : List D → Option D := callM 2 8 b__law_places
theorem fn__law_places {f : Addr} {fd : FuncData} (F : FunD K "_law_places" "_law_places" (defArgs s__law_places) (defBody s__law_places) (defScope s__law_places) [] [] f fd) (c__law_number_of : Cal P w K mg base "_law_number_of" 1 2 m__law_number_of) (h_len : mg "len" = none) : FnOk P w K mg base CX0 2 f fd ["clocks", "spans"] (spD K 2 m__law_places) :=
  fn_mk (N := N__law_places) (m := b__law_places) F sc__law_places rfl (fun cdv A outer s H E hr =>
      (dss_cons (ds_setLcF 2 (own := [("clock", 6)]) rfl sc__law_places.nd (dit_list (dt_var 0)) (blkOk_by (N := N__law_places) (sc := defScope s__law_places) (by decide +kernel)) (by decide) (fun _ _ _ _ _ => (dg_name 6 sc__law_places.nd)) (fun _ _ _ _ _ => dts_nil) (fun _ _ _ _ _ => (de_ix (dt_var 6) (DE.t de_int))) (sw_true rfl rfl rfl (by decide +kernel)))
      (dss_cons (ds_set 3 sc__law_places.nd (de_add (DE.t de_int) (DE.t (de_len h_len (dt_var 0)))))
      (dss_cons (ds_setO 4 sc__law_places.nd (df_lst da_nil))
      (dss_cons (ds_for PassesOwn.never rfl (di_list (de_var 1)) (dg_name 5 sc__law_places.nd) (dss_one (ds_if (db_isN (DE.t (de_ix (dt_var 5) (DE.t de_int)))) (dss_cons (ds_app 4 (de_tup (da_cons (de_var 3) (da_cons de_int da_nil))))
      (dss_cons (ds_app 4 (de_tup (da_cons (de_add (dt_var 3) (DE.t de_int)) (da_cons de_int da_nil))))
      (dss_one (ds_set 3 sc__law_places.nd (de_add (dt_var 3) (DE.t de_int)))))) (dss_cons (ds_set 7 sc__law_places.nd (de_add (DE.t de_int) (DE.t (de_call c__law_number_of (hr.mono (by decide)) (da_cons (de_var 2) (da_cons (de_ix (dt_var 5) (DE.t de_int)) da_nil))))))
      (dss_cons (ds_app 4 (de_tup (da_cons (de_var 7) (da_cons (de_ix (dt_var 5) (DE.t de_int)) da_nil))))
      (dss_one (ds_app 4 (de_tup (da_cons (de_var 7) (da_cons (de_ix (dt_var 5) (DE.t de_int)) da_nil))))))))))
      (dss_one (ds_retO 4)))))))
theorem bd__law_places (kV doc pm : Value) (an : Option Addr) (cdv ct : Value) (us : List Value) (hl : us.length = ["clocks", "spans"].length) : bindArgs (PySem.W.fnOf "_law_places" "_law_places" (defArgs s__law_places) (defBody s__law_places) (defScope s__law_places) .none kV doc pm an cdv ct) ⟨us, []⟩ = pure ((["clocks", "spans"] : List Str).zip us) := match us, hl with | [_, _], _ => rfl
theorem cal__law_places (F : Stands K mg "_law_places" s__law_places) (c__law_number_of : Cal P w K mg base "_law_number_of" 1 2 m__law_number_of) (h_len : mg "len" = none) : Cal P w K mg base "_law_places" 2 2 m__law_places :=
  cal_of F bd__law_places fun F => fn__law_places F c__law_number_of h_len

abbrev s__law_due : Stmt := topS 31
abbrev N__law_due : List Str := ["clocks", "spans", "leap", "facts", "k", "places", "order", "start", "end", "span", "j", "gap", "upper"]
theorem sc__law_due : FnScope N__law_due ["clocks", "spans", "leap"] (defScope s__law_due) := ⟨rfl, rfl, rfl, by decide +kernel, rfl, by decide +kernel, by decide +kernel⟩
def b__law_due : En → Option Out :=
      (mSeq (mSetO 3 (mLst mNil))
      (mSeq (mFor (fun E => ((mUn lenD (mVarT 0)) E).bind rg1) (gM 4) (mApp 3 (mTup (mCons (mC (.int 0)) (mCons (mBin addD (mVarT 4) (mC (.int 1))) (mCons (mUn negD (mBin ixD (mBin ixD (mVarT 0) (mVarT 4)) (mC (.int 1)))) (mCons (mBin ixD (mBin ixD (mVarT 0) (mVarT 4)) (mC (.int 1))) mNil)))))))
      (mSeq (mSet 5 (mCall 2 m__law_places (mCons (mVar 0) (mCons (mVar 1) mNil))))
      (mSeq (mSet 6 (mList (mComp [9] (fun E => ((mVarT 1) E).bind lstOf) (gM 9) mYes (mBin ixD (mVarT 9) (mC (.int 0))))))
      (mSeq (mFor (fun E => ((mUn lenD (mVarT 1)) E).bind rg1) (gM 4) (mSeq (mSet 7 (mBin ixD (mVarT 5) (mBin (intOpC mulOk fun i j => .int (i * j)) (mC (.int 2)) (mVarT 4))))
      (mSeq (mSet 8 (mBin ixD (mVarT 5) (mBin addD (mBin (intOpC mulOk fun i j => .int (i * j)) (mC (.int 2)) (mVarT 4)) (mC (.int 1)))))
      (mSeq (mIfS (fun E => ((mBin ixD (mBin ixD (mVarT 1) (mVarT 4)) (mC (.int 3))) E).map isN) (mApp 3 (mTup (mCons (mBin ixD (mVarT 7) (mC (.int 0))) (mCons (mBin ixD (mVarT 8) (mC (.int 0))) (mCons (mC (.int 0)) (mCons (mC .non) mNil)))))) mNext)
      (mIfS (fun E => ((mBin ixD (mBin ixD (mVarT 1) (mVarT 4)) (mC (.int 1))) E).map (fun d => !isN d)) (mSeq (mSet 10 (mCall 2 m__law_number_of (mCons (mVar 6) (mCons (mBin ixD (mBin ixD (mVarT 1) (mVarT 4)) (mC (.int 1))) mNil))))
      (mSeq (mSet 11 (mVar 2))
      (mSeq (mIfS (fun E => ((mBin eqD (mBin ixD (mBin ixD (mVarT 1) (mVarT 10)) (mC (.int 2))) (mBin ixD (mBin ixD (mVarT 1) (mVarT 4)) (mC (.int 2)))) E).bind blOf) (mSet 11 (mC (.int 0))) mNext)
      (mSeq (mSet 12 (mBin ixD (mVarT 5) (mBin (intOpC mulOk fun i j => .int (i * j)) (mC (.int 2)) (mVarT 10))))
      (mSeq (mIfS (fun E => ((mBin neD (mBin ixD (mVarT 12) (mC (.int 0))) (mBin ixD (mVarT 7) (mC (.int 0)))) E).bind blOf) (mApp 3 (mTup (mCons (mBin ixD (mVarT 12) (mC (.int 0))) (mCons (mBin ixD (mVarT 7) (mC (.int 0))) (mCons (mBin (intOp fun i j => .int (i - j)) (mBin addD (mVarT 11) (mBin ixD (mVarT 12) (mC (.int 1)))) (mBin ixD (mVarT 7) (mC (.int 1)))) (mCons (mC .non) mNil)))))) mNext)
      (mSeq (mSet 12 (mBin ixD (mVarT 5) (mBin addD (mBin (intOpC mulOk fun i j => .int (i * j)) (mC (.int 2)) (mVarT 10)) (mC (.int 1)))))
      (mIfS (fun E => ((mBin neD (mBin ixD (mVarT 12) (mC (.int 0))) (mBin ixD (mVarT 8) (mC (.int 0)))) E).bind blOf) (mApp 3 (mTup (mCons (mBin ixD (mVarT 8) (mC (.int 0))) (mCons (mBin ixD (mVarT 12) (mC (.int 0))) (mCons (mBin (intOp fun i j => .int (i - j)) (mBin addD (mVarT 11) (mBin ixD (mVarT 8) (mC (.int 1)))) (mBin ixD (mVarT 12) (mC (.int 1)))) (mCons (mC .non) mNil)))))) mNext))))))) mNext)))))
      (mRetO 3))))))
def m__law_due : List D → Option D := callM 3 13 b__law_due
theorem fn__law_due {f : Addr} {fd : FuncData} (F : FunD K "_law_due" "_law_due" (defArgs s__law_due) (defBody s__law_due) (defScope s__law_due) [] [] f fd) (c__law_places : Cal P w K mg base "_law_places" 2 2 m__law_places) (c__law_number_of : Cal P w K mg base "_law_number_of" 1 2 m__law_number_of) (h_len : mg "len" = none) (h_range : mg "range" = none) : FnOk P w K mg base CX0 3 f fd ["clocks", "spans", "leap"] (spD K 3 m__law_due) :=
  fn_mk (N := N__law_due) (m := b__law_due) F sc__law_due rfl (fun cdv A outer s H E hr =>
      (dss_cons (ds_setO 3 sc__law_due.nd (df_lst da_nil))
      (dss_cons (ds_for PassesOwn.never rfl (di_range1 h_range (DE.t (de_len h_len (dt_var 0)))) (dg_name 4 sc__law_due.nd) (dss_one (ds_app 3 (de_tup (da_cons de_int (da_cons (de_add (dt_var 4) (DE.t de_int)) (da_cons (de_neg (DE.t (de_ix (DE.t (de_ix (dt_var 0) (dt_var 4))) (DE.t de_int)))) (da_cons (de_ix (DE.t (de_ix (dt_var 0) (dt_var 4))) (DE.t de_int)) da_nil))))))))
      (dss_cons (ds_set 5 sc__law_due.nd (de_call c__law_places (hr.mono (by decide)) (da_cons (de_var 0) (da_cons (de_var 1) da_nil))))
      (dss_cons (ds_setLcF 6 (own := [("span", 9)]) rfl sc__law_due.nd (dit_list (dt_var 1)) (blkOk_by (N := N__law_due) (sc := defScope s__law_due) (by decide +kernel)) (by decide) (fun _ _ _ _ _ => (dg_name 9 sc__law_due.nd)) (fun _ _ _ _ _ => dts_nil) (fun _ _ _ _ _ => (de_ix (dt_var 9) (DE.t de_int))) (sw_true rfl rfl rfl (by decide +kernel)))
      (dss_cons (ds_for PassesOwn.never rfl (di_range1 h_range (DE.t (de_len h_len (dt_var 1)))) (dg_name 4 sc__law_due.nd) (dss_cons (ds_set 7 sc__law_due.nd (de_ix (dt_var 5) (DE.t (de_mul (DE.t de_int) (dt_var 4)))))
      (dss_cons (ds_set 8 sc__law_due.nd (de_ix (dt_var 5) (DE.t (de_add (DE.t (de_mul (DE.t de_int) (dt_var 4))) (DE.t de_int)))))
      (dss_cons (ds_if (db_isN (DE.t (de_ix (DE.t (de_ix (dt_var 1) (dt_var 4))) (DE.t de_int)))) (dss_one (ds_app 3 (de_tup (da_cons (de_ix (dt_var 7) (DE.t de_int)) (da_cons (de_ix (dt_var 8) (DE.t de_int)) (da_cons de_int (da_cons de_non da_nil))))))) dss_nil)
      (dss_one (ds_if (db_notN (DE.t (de_ix (DE.t (de_ix (dt_var 1) (dt_var 4))) (DE.t de_int)))) (dss_cons (ds_set 10 sc__law_due.nd (de_call c__law_number_of (hr.mono (by decide)) (da_cons (de_var 6) (da_cons (de_ix (DE.t (de_ix (dt_var 1) (dt_var 4))) (DE.t de_int)) da_nil))))
      (dss_cons (ds_set 11 sc__law_due.nd (de_var 2))
      (dss_cons (ds_if (db_cmp (op_eqAll hr) od_eq (DE.t (de_ix (DE.t (de_ix (dt_var 1) (dt_var 10))) (DE.t de_int))) (DE.t (de_ix (DE.t (de_ix (dt_var 1) (dt_var 4))) (DE.t de_int)))) (dss_one (ds_set 11 sc__law_due.nd de_int)) dss_nil)
      (dss_cons (ds_set 12 sc__law_due.nd (de_ix (dt_var 5) (DE.t (de_mul (DE.t de_int) (dt_var 10)))))
      (dss_cons (ds_if (db_cmp (op_neAll hr) od_ne (DE.t (de_ix (dt_var 12) (DE.t de_int))) (DE.t (de_ix (dt_var 7) (DE.t de_int)))) (dss_one (ds_app 3 (de_tup (da_cons (de_ix (dt_var 12) (DE.t de_int)) (da_cons (de_ix (dt_var 7) (DE.t de_int)) (da_cons (de_sub (DE.t (de_add (dt_var 11) (DE.t (de_ix (dt_var 12) (DE.t de_int))))) (DE.t (de_ix (dt_var 7) (DE.t de_int)))) (da_cons de_non da_nil))))))) dss_nil)
      (dss_cons (ds_set 12 sc__law_due.nd (de_ix (dt_var 5) (DE.t (de_add (DE.t (de_mul (DE.t de_int) (dt_var 10))) (DE.t de_int)))))
      (dss_one (ds_if (db_cmp (op_neAll hr) od_ne (DE.t (de_ix (dt_var 12) (DE.t de_int))) (DE.t (de_ix (dt_var 8) (DE.t de_int)))) (dss_one (ds_app 3 (de_tup (da_cons (de_ix (dt_var 8) (DE.t de_int)) (da_cons (de_ix (dt_var 12) (DE.t de_int)) (da_cons (de_sub (DE.t (de_add (dt_var 11) (DE.t (de_ix (dt_var 8) (DE.t de_int))))) (DE.t (de_ix (dt_var 12) (DE.t de_int)))) (da_cons de_non da_nil))))))) dss_nil)))))))) dss_nil))))))
      (dss_one (ds_retO 3))))))))
theorem bd__law_due (kV doc pm : Value) (an : Option Addr) (cdv ct : Value) (us : List Value) (hl : us.length = ["clocks", "spans", "leap"].length) : bindArgs (PySem.W.fnOf "_law_due" "_law_due" (defArgs s__law_due) (defBody s__law_due) (defScope s__law_due) .none kV doc pm an cdv ct) ⟨us, []⟩ = pure ((["clocks", "spans", "leap"] : List Str).zip us) := match us, hl with | [_, _, _], _ => rfl
theorem cal__law_due (F : Stands K mg "_law_due" s__law_due) (c__law_places : Cal P w K mg base "_law_places" 2 2 m__law_places) (c__law_number_of : Cal P w K mg base "_law_number_of" 1 2 m__law_number_of) (h_len : mg "len" = none) (h_range : mg "range" = none) : Cal P w K mg base "_law_due" 3 3 m__law_due :=
  cal_of F bd__law_due fun F => fn__law_due F c__law_places c__law_number_of h_len h_range

abbrev s__law_spans : Stmt := topS 32
abbrev N__law_spans : List Str := ["script", "at", "names", "clocks", "scale", "base", "spans", "k", "cell", "clock", "start", "end", "parent", "upper"]
theorem sc__law_spans : FnScope N__law_spans ["script", "at", "names", "clocks", "scale", "base"] (defScope s__law_spans) := ⟨rfl, rfl, rfl, by decide +kernel, rfl, by decide +kernel, by decide +kernel⟩
def b__law_spans : En → Option Out :=
      (mSeq (mSetO 6 (mLst mNil))
      (mSeq (mFor (fun E => ((mUn lenD (mVarT 2)) E).bind rg1) (gM 7) (mSeq (mSet 8 (mBin addD (mVarT 1) (mBin (intOpC (fun _ j => decide (0 < j)) fun i j => .int (i % j)) (mUn intD (mVarT 7)) (mC (.int 20)))))
      (mSeq (mSet 9 (mBin ixD (mBin ixD (mVarT 3) (mCall 4 m__law_draw (mCons (mVar 0) (mCons (mVar 8) (mCons (mC (.int 0)) (mCons (mUn lenD (mVarT 3)) mNil)))))) (mC (.int 0))))
      (mSeq (mSet 10 (mBin (intOp fun i j => .int (i - j)) (mBin addD (mVarT 5) (mCall 4 m__law_draw (mCons (mVar 0) (mCons (mVar 8) (mCons (mC (.int 1)) (mCons (mBin addD (mBin (intOpC mulOk fun i j => .int (i * j)) (mC (.int 2)) (mVarT 4)) (mC (.int 1))) mNil)))))) (mVarT 4)))
      (mSeq (mSet 11 (mBin addD (mVarT 10) (mCall 4 m__law_draw (mCons (mVar 0) (mCons (mVar 8) (mCons (mC (.int 2)) (mCons (mBin addD (mVarT 4) (mC (.int 1))) mNil)))))))
      (mSeq (mSet 12 (mC .non))
      (mSeq (mIfS (mAnd (fun E => ((mBin (intOp fun i j => .bl (decide (j < i))) (mVarT 7) (mC (.int 0))) E).bind blOf) (fun E => ((mBin (intOp fun i j => .bl (decide (j < i))) (mCall 4 m__law_draw (mCons (mVar 0) (mCons (mVar 8) (mCons (mC (.int 3)) (mCons (mC (.int 4)) mNil))))) (mC (.int 0))) E).bind blOf)) (mSeq (mSet 13 (mBin ixD (mVarT 6) (mCall 4 m__law_draw (mCons (mVar 0) (mCons (mVar 8) (mCons (mC (.int 4)) (mCons (mVar 7) mNil)))))))
      (mSeq (mSet 12 (mBin ixD (mVarT 13) (mC (.int 0))))
      (mIfS (mAnd (fun E => ((mBin eqD (mBin ixD (mVarT 13) (mC (.int 2))) (mVarT 9)) E).bind blOf) (fun E => ((mBin ixD (mVarT 13) (mC (.int 3))) E).map (fun d => !isN d))) (mSeq (mSet 10 (mBin addD (mBin ixD (mVarT 13) (mC (.int 3))) (mCall 4 m__law_draw (mCons (mVar 0) (mCons (mVar 8) (mCons (mC (.int 1)) (mCons (mBin addD (mBin (intOp fun i j => .int (i - j)) (mBin ixD (mVarT 13) (mC (.int 4))) (mBin ixD (mVarT 13) (mC (.int 3)))) (mC (.int 1))) mNil)))))))
      (mSet 11 (mBin addD (mVarT 10) (mCall 4 m__law_draw (mCons (mVar 0) (mCons (mVar 8) (mCons (mC (.int 2)) (mCons (mBin addD (mBin (intOp fun i j => .int (i - j)) (mBin ixD (mVarT 13) (mC (.int 4))) (mVarT 10)) (mC (.int 1))) mNil)))))))) mNext))) mNext)
      (mSeq (mIfS (fun E => ((mBin eqD (mCall 4 m__law_draw (mCons (mVar 0) (mCons (mVar 8) (mCons (mC (.int 5)) (mCons (mC (.int 3)) mNil))))) (mC (.int 0))) E).bind blOf) (mSeq (mSet 10 (mC .non))
      (mSet 11 (mC .non))) mNext)
      (mApp 6 (mTup (mCons (mBin ixD (mVarT 2) (mVarT 7)) (mCons (mVar 12) (mCons (mVar 9) (mCons (mVar 10) (mCons (mVar 11) mNil)))))))))))))))
      (mRetO 6)))
def m__law_spans : List D → Option D := callM 6 14 b__law_spans
theorem fn__law_spans {f : Addr} {fd : FuncData} (F : FunD K "_law_spans" "_law_spans" (defArgs s__law_spans) (defBody s__law_spans) (defScope s__law_spans) [] [] f fd) (c__law_draw : Cal P w K mg base "_law_draw" 2 4 m__law_draw) (h_len : mg "len" = none) (h_range : mg "range" = none) (h_int : mg "int" = none) : FnOk P w K mg base CX0 3 f fd ["script", "at", "names", "clocks", "scale", "base"] (spD K 6 m__law_spans) :=
  fn_mk (N := N__law_spans) (m := b__law_spans) F sc__law_spans rfl (fun cdv A outer s H E hr =>
      (dss_cons (ds_setO 6 sc__law_spans.nd (df_lst da_nil))
      (dss_cons (ds_for PassesOwn.never rfl (di_range1 h_range (DE.t (de_len h_len (dt_var 2)))) (dg_name 7 sc__law_spans.nd) (dss_cons (ds_set 8 sc__law_spans.nd (de_add (dt_var 1) (DE.t (de_mod (DE.t (de_int1 h_int (dt_var 7))) (DE.t de_int)))))
      (dss_cons (ds_set 9 sc__law_spans.nd (de_ix (DE.t (de_ix (dt_var 3) (DE.t (de_call c__law_draw (hr.mono (by decide)) (da_cons (de_var 0) (da_cons (de_var 8) (da_cons de_int (da_cons (de_len h_len (dt_var 3)) da_nil)))))))) (DE.t de_int)))
      (dss_cons (ds_set 10 sc__law_spans.nd (de_sub (DE.t (de_add (dt_var 5) (DE.t (de_call c__law_draw (hr.mono (by decide)) (da_cons (de_var 0) (da_cons (de_var 8) (da_cons de_int (da_cons (de_add (DE.t (de_mul (DE.t de_int) (dt_var 4))) (DE.t de_int)) da_nil)))))))) (dt_var 4)))
      (dss_cons (ds_set 11 sc__law_spans.nd (de_add (dt_var 10) (DE.t (de_call c__law_draw (hr.mono (by decide)) (da_cons (de_var 0) (da_cons (de_var 8) (da_cons de_int (da_cons (de_add (dt_var 4) (DE.t de_int)) da_nil))))))))
      (dss_cons (ds_set 12 sc__law_spans.nd de_non)
      (dss_cons (ds_if (DW.toB (dw_and (db_cmp op_gt od_gt (dt_var 7) (DE.t de_int)) (dw_and1 (db_cmp op_gt od_gt (DE.t (de_call c__law_draw (hr.mono (by decide)) (da_cons (de_var 0) (da_cons (de_var 8) (da_cons de_int (da_cons de_int da_nil)))))) (DE.t de_int))))) (dss_cons (ds_set 13 sc__law_spans.nd (de_ix (dt_var 6) (DE.t (de_call c__law_draw (hr.mono (by decide)) (da_cons (de_var 0) (da_cons (de_var 8) (da_cons de_int (da_cons (de_var 7) da_nil))))))))
      (dss_cons (ds_set 12 sc__law_spans.nd (de_ix (dt_var 13) (DE.t de_int)))
      (dss_one (ds_if (DW.toB (dw_and (db_cmp (op_eqAll hr) od_eq (DE.t (de_ix (dt_var 13) (DE.t de_int))) (dt_var 9)) (dw_and1 (db_notN (DE.t (de_ix (dt_var 13) (DE.t de_int))))))) (dss_cons (ds_set 10 sc__law_spans.nd (de_add (DE.t (de_ix (dt_var 13) (DE.t de_int))) (DE.t (de_call c__law_draw (hr.mono (by decide)) (da_cons (de_var 0) (da_cons (de_var 8) (da_cons de_int (da_cons (de_add (DE.t (de_sub (DE.t (de_ix (dt_var 13) (DE.t de_int))) (DE.t (de_ix (dt_var 13) (DE.t de_int))))) (DE.t de_int)) da_nil))))))))
      (dss_one (ds_set 11 sc__law_spans.nd (de_add (dt_var 10) (DE.t (de_call c__law_draw (hr.mono (by decide)) (da_cons (de_var 0) (da_cons (de_var 8) (da_cons de_int (da_cons (de_add (DE.t (de_sub (DE.t (de_ix (dt_var 13) (DE.t de_int))) (dt_var 10))) (DE.t de_int)) da_nil)))))))))) dss_nil)))) dss_nil)
      (dss_cons (ds_if (db_cmp (op_eqAll hr) od_eq (DE.t (de_call c__law_draw (hr.mono (by decide)) (da_cons (de_var 0) (da_cons (de_var 8) (da_cons de_int (da_cons de_int da_nil)))))) (DE.t de_int)) (dss_cons (ds_set 10 sc__law_spans.nd de_non)
      (dss_one (ds_set 11 sc__law_spans.nd de_non))) dss_nil)
      (dss_one (ds_app 6 (de_tup (da_cons (de_ix (dt_var 2) (dt_var 7)) (da_cons (de_var 12) (da_cons (de_var 9) (da_cons (de_var 10) (da_cons (de_var 11) da_nil))))))))))))))))
      (dss_one (ds_retO 6)))))
theorem bd__law_spans (kV doc pm : Value) (an : Option Addr) (cdv ct : Value) (us : List Value) (hl : us.length = ["script", "at", "names", "clocks", "scale", "base"].length) : bindArgs (PySem.W.fnOf "_law_spans" "_law_spans" (defArgs s__law_spans) (defBody s__law_spans) (defScope s__law_spans) .none kV doc pm an cdv ct) ⟨us, []⟩ = pure ((["script", "at", "names", "clocks", "scale", "base"] : List Str).zip us) := match us, hl with | [_, _, _, _, _, _], _ => rfl
theorem cal__law_spans (F : Stands K mg "_law_spans" s__law_spans) (c__law_draw : Cal P w K mg base "_law_draw" 2 4 m__law_draw) (h_len : mg "len" = none) (h_range : mg "range" = none) (h_int : mg "int" = none) : Cal P w K mg base "_law_spans" 3 6 m__law_spans :=
  cal_of F bd__law_spans fun F => fn__law_spans F c__law_draw h_len h_range h_int

abbrev s__law_is_name : Stmt := topS 33
abbrev N__law_is_name : List Str := ["text", "j"]
theorem sc__law_is_name : FnScope N__law_is_name ["text"] (defScope s__law_is_name) := ⟨rfl, rfl, rfl, by decide +kernel, rfl, by decide +kernel, by decide +kernel⟩
def b__law_is_name : En → Option Out :=
      (mSeq (mIfS (mOr (mNot (fun E => ((mChain (intOp fun i j => .bl (decide (i ≤ j))) (intOp fun i j => .bl (decide (i ≤ j))) (mC (.int 1)) (mUn lenD (mVarT 0)) (mC (.int 12))) E).bind blOf)) (fun E => ((mBin inDA (mBin ixD (mVarT 0) (mC (.int 0))) (mC (.str "0123456789"))) E).bind blOf)) (mRet (mC (.bl false))) mNext)
      (mSeq (mFor (fun E => ((mUn lenD (mVarT 0)) E).bind rg1) (gM 1) (mIfS (fun E => ((mBin notInDA (mBin ixD (mVarT 0) (mVarT 1)) (mC (.str "abcdefghijklmnopqrstuvwxyz0123456789"))) E).bind blOf) (mRet (mC (.bl false))) mNext))
      (mRet (mBin notInDA (mVarT 0) (mList (mLst (mCons (mC (.str "all")) (mCons (mC (.str "and")) (mCons (mC (.str "or")) (mCons (mC (.str "not")) (mCons (mC (.str "some")) (mCons (mC (.str "every")) (mCons (mC (.str "row")) (mCons (mC (.str "first")) (mCons (mC (.str "from")) (mCons (mC (.str "to")) (mCons (mC (.str "at")) (mCons (mC (.str "in")) mNil))))))))))))))))))
def m__law_is_name : List D → Option D := callM 1 2 b__law_is_name
theorem fn__law_is_name {f : Addr} {fd : FuncData} (F : FunD K "_law_is_name" "_law_is_name" (defArgs s__law_is_name) (defBody s__law_is_name) (defScope s__law_is_name) [] [] f fd) (h_len : mg "len" = none) (h_range : mg "range" = none) : FnOk P w K mg base CX0 1 f fd ["text"] (spD K 1 m__law_is_name) :=
  fn_mk (N := N__law_is_name) (m := b__law_is_name) F sc__law_is_name rfl (fun cdv A outer s H E hr =>
      (dss_cons (ds_if (DW.toB (dw_or (db_not (db_chain op_le od_le op_le od_le (DE.t de_int) (DE.t (de_len h_len (dt_var 0))) (DE.t de_int))) (dw_or1 (db_cmp op_inAll od_inA (DE.t (de_ix (dt_var 0) (DE.t de_int))) (DE.t de_str))))) (dss_one (ds_ret (DE.t de_bl))) dss_nil)
      (dss_cons (ds_for PassesOwn.never rfl (di_range1 h_range (DE.t (de_len h_len (dt_var 0)))) (dg_name 1 sc__law_is_name.nd) (dss_one (ds_if (db_cmp op_notInAll od_notInA (DE.t (de_ix (dt_var 0) (dt_var 1))) (DE.t de_str)) (dss_one (ds_ret (DE.t de_bl))) dss_nil)))
      (dss_one (ds_ret (DE.t (de_cmp op_notInAll od_notInA (dt_var 0) (DF.t (df_lst (da_cons de_str (da_cons de_str (da_cons de_str (da_cons de_str (da_cons de_str (da_cons de_str (da_cons de_str (da_cons de_str (da_cons de_str (da_cons de_str (da_cons de_str (da_cons de_str da_nil)))))))))))))))))))))
theorem bd__law_is_name (kV doc pm : Value) (an : Option Addr) (cdv ct : Value) (us : List Value) (hl : us.length = ["text"].length) : bindArgs (PySem.W.fnOf "_law_is_name" "_law_is_name" (defArgs s__law_is_name) (defBody s__law_is_name) (defScope s__law_is_name) .none kV doc pm an cdv ct) ⟨us, []⟩ = pure ((["text"] : List Str).zip us) := match us, hl with | [_], _ => rfl
theorem cal__law_is_name (F : Stands K mg "_law_is_name" s__law_is_name) (h_len : mg "len" = none) (h_range : mg "range" = none) : Cal P w K mg base "_law_is_name" 1 1 m__law_is_name :=
  cal_of F bd__law_is_name fun F => fn__law_is_name F h_len h_range

abbrev s__law_good_clocks : Stmt := topS 34
abbrev N__law_good_clocks : List Str := ["clocks", "names", "clock"]
theorem sc__law_good_clocks : FnScope N__law_good_clocks ["clocks"] (defScope s__law_good_clocks) := ⟨rfl, rfl, rfl, by decide +kernel, rfl, by decide +kernel, by decide +kernel⟩
def b__law_good_clocks : En → Option Out :=
      (mSeq (mSetO 1 (mLst mNil))
      (mSeq (mFor (fun E => ((mVar 0) E).bind lstOf) (gM 2) (mSeq (mIfS (mOr (mNot (fun E => ((mCall 1 m__law_is_name (mCons (mBin ixD (mVarT 2) (mC (.int 0))) mNil)) E).bind truD)) (mOr (fun E => ((mBin inDA (mBin ixD (mVarT 2) (mC (.int 0))) (mVarT 1)) E).bind blOf) (mNot (fun E => ((mChain (intOp fun i j => .bl (decide (i ≤ j))) (intOp fun i j => .bl (decide (i ≤ j))) (mC (.int 0)) (mBin ixD (mVarT 2) (mC (.int 1))) (mC (.int 1000000))) E).bind blOf)))) (mRet (mC (.bl false))) mNext)
      (mApp 1 (mBin ixD (mVarT 2) (mC (.int 0))))))
      (mRet (mChain (intOp fun i j => .bl (decide (i ≤ j))) (intOp fun i j => .bl (decide (i ≤ j))) (mC (.int 1)) (mUn lenD (mVarT 0)) (mC (.int 6))))))
def m__law_good_clocks : List D → Option D := callM 1 3 b__law_good_clocks
theorem fn__law_good_clocks {f : Addr} {fd : FuncData} (F : FunD K "_law_good_clocks" "_law_good_clocks" (defArgs s__law_good_clocks) (defBody s__law_good_clocks) (defScope s__law_good_clocks) [] [] f fd) (c__law_is_name : Cal P w K mg base "_law_is_name" 1 1 m__law_is_name) (h_len : mg "len" = none) : FnOk P w K mg base CX0 2 f fd ["clocks"] (spD K 1 m__law_good_clocks) :=
  fn_mk (N := N__law_good_clocks) (m := b__law_good_clocks) F sc__law_good_clocks rfl (fun cdv A outer s H E hr =>
      (dss_cons (ds_setO 1 sc__law_good_clocks.nd (df_lst da_nil))
      (dss_cons (ds_for PassesOwn.never rfl (di_list (de_var 0)) (dg_name 2 sc__law_good_clocks.nd) (dss_cons (ds_if (DW.toB (dw_or (db_not (db_tru (DE.t (de_call c__law_is_name (hr.mono (by decide)) (da_cons (de_ix (dt_var 2) (DE.t de_int)) da_nil))))) (dw_or (db_cmp op_inAll od_inA (DE.t (de_ix (dt_var 2) (DE.t de_int))) (dt_var 1)) (dw_or1 (db_not (db_chain op_le od_le op_le od_le (DE.t de_int) (DE.t (de_ix (dt_var 2) (DE.t de_int))) (DE.t de_int))))))) (dss_one (ds_ret (DE.t de_bl))) dss_nil)
      (dss_one (ds_app 1 (de_ix (dt_var 2) (DE.t de_int))))))
      (dss_one (ds_ret (DE.t (de_chain op_le od_le op_le od_le (DE.t de_int) (DE.t (de_len h_len (dt_var 0))) (DE.t de_int))))))))
theorem bd__law_good_clocks (kV doc pm : Value) (an : Option Addr) (cdv ct : Value) (us : List Value) (hl : us.length = ["clocks"].length) : bindArgs (PySem.W.fnOf "_law_good_clocks" "_law_good_clocks" (defArgs s__law_good_clocks) (defBody s__law_good_clocks) (defScope s__law_good_clocks) .none kV doc pm an cdv ct) ⟨us, []⟩ = pure ((["clocks"] : List Str).zip us) := match us, hl with | [_], _ => rfl
theorem cal__law_good_clocks (F : Stands K mg "_law_good_clocks" s__law_good_clocks) (c__law_is_name : Cal P w K mg base "_law_is_name" 1 1 m__law_is_name) (h_len : mg "len" = none) : Cal P w K mg base "_law_good_clocks" 2 1 m__law_good_clocks :=
  cal_of F bd__law_good_clocks fun F => fn__law_good_clocks F c__law_is_name h_len

abbrev s__law_good : Stmt := topS 35
abbrev N__law_good : List Str := ["shape", "order", "k", "span", "j", "upper", "clock"]
theorem sc__law_good : FnScope N__law_good ["shape"] (defScope s__law_good) := ⟨rfl, rfl, rfl, by decide +kernel, rfl, by decide +kernel, by decide +kernel⟩
def b__law_good : En → Option Out :=
      (mSeq (mIfS (mOr (mNot (fun E => ((mCall 1 m__law_good_clocks (mCons (mBin ixD (mVarT 0) (mC (.int 0))) mNil)) E).bind truD)) (mNot (fun E => ((mChain (intOp fun i j => .bl (decide (i ≤ j))) (intOp fun i j => .bl (decide (i ≤ j))) (mC (.int 0)) (mBin ixD (mVarT 0) (mC (.int 2))) (mC (.int 1000000))) E).bind blOf))) (mRet (mC (.bl false))) mNext)
      (mSeq (mSetO 1 (mLst mNil))
      (mSeq (mFor (fun E => ((mUn lenD (mBin ixD (mVarT 0) (mC (.int 1)))) E).bind rg1) (gM 2) (mSeq (mSet 3 (mBin ixD (mBin ixD (mVarT 0) (mC (.int 1))) (mVarT 2)))
      (mSeq (mIfS (mOr (mNot (fun E => ((mCall 1 m__law_is_name (mCons (mBin ixD (mVarT 3) (mC (.int 0))) mNil)) E).bind truD)) (mOr (fun E => ((mBin inDA (mBin ixD (mVarT 3) (mC (.int 0))) (mVarT 1)) E).bind blOf) (fun E => ((mBin notInDA (mBin ixD (mVarT 3) (mC (.int 2))) (mList (mComp [6] (fun E => ((mBin ixD (mVarT 0) (mC (.int 0))) E).bind lstOf) (gM 6) mYes (mBin ixD (mVarT 6) (mC (.int 0)))))) E).bind blOf))) (mRet (mC (.bl false))) mNext)
      (mSeq (mIfS (fun E => ((mBin neD (mUn (fun d => some (.bl (isN d))) (mBin ixD (mVarT 3) (mC (.int 3)))) (mUn (fun d => some (.bl (isN d))) (mBin ixD (mVarT 3) (mC (.int 4))))) E).bind blOf) (mRet (mC (.bl false))) mNext)
      (mSeq (mIfS (mAnd (fun E => ((mBin ixD (mVarT 3) (mC (.int 3))) E).map (fun d => !isN d)) (fun E => ((mBin (intOp fun i j => .bl (decide (j < i))) (mBin ixD (mVarT 3) (mC (.int 3))) (mBin ixD (mVarT 3) (mC (.int 4)))) E).bind blOf)) (mRet (mC (.bl false))) mNext)
      (mSeq (mIfS (fun E => ((mBin ixD (mVarT 3) (mC (.int 1))) E).map (fun d => !isN d)) (mSeq (mSet 4 (mCallT 2 m__law_number_of (mCons (mVarT 1) (mCons (mBin ixD (mVarT 3) (mC (.int 1))) mNil))))
      (mSeq (mIfS (fun E => ((mBin (intOp fun i j => .bl (decide (i < j))) (mVarT 4) (mC (.int 0))) E).bind blOf) (mRet (mC (.bl false))) mNext)
      (mSeq (mSet 5 (mBin ixD (mBin ixD (mVarT 0) (mC (.int 1))) (mVarT 4)))
      (mIfS (mAnd (fun E => ((mBin eqD (mBin ixD (mVarT 5) (mC (.int 2))) (mBin ixD (mVarT 3) (mC (.int 2)))) E).bind blOf) (mAnd (fun E => ((mBin ixD (mVarT 5) (mC (.int 3))) E).map (fun d => !isN d)) (fun E => ((mBin ixD (mVarT 3) (mC (.int 3))) E).map (fun d => !isN d)))) (mIfS (mOr (fun E => ((mBin (intOp fun i j => .bl (decide (i < j))) (mBin ixD (mVarT 3) (mC (.int 3))) (mBin ixD (mVarT 5) (mC (.int 3)))) E).bind blOf) (fun E => ((mBin (intOp fun i j => .bl (decide (j < i))) (mBin ixD (mVarT 3) (mC (.int 4))) (mBin ixD (mVarT 5) (mC (.int 4)))) E).bind blOf)) (mRet (mC (.bl false))) mNext) mNext)))) mNext)
      (mApp 1 (mBin ixD (mVarT 3) (mC (.int 0))))))))))
      (mRet (mC (.bl true))))))
def m__law_good : List D → Option D := callM 1 7 b__law_good
theorem fn__law_good {f : Addr} {fd : FuncData} (F : FunD K "_law_good" "_law_good" (defArgs s__law_good) (defBody s__law_good) (defScope s__law_good) [] [] f fd) (c__law_good_clocks : Cal P w K mg base "_law_good_clocks" 2 1 m__law_good_clocks) (c__law_is_name : Cal P w K mg base "_law_is_name" 1 1 m__law_is_name) (c__law_number_of : Cal P w K mg base "_law_number_of" 1 2 m__law_number_of) (h_len : mg "len" = none) (h_range : mg "range" = none) : FnOk P w K mg base CX0 3 f fd ["shape"] (spD K 1 m__law_good) :=
  fn_mk (N := N__law_good) (m := b__law_good) F sc__law_good rfl (fun cdv A outer s H E hr =>
      (dss_cons (ds_if (DW.toB (dw_or (db_not (db_tru (DE.t (de_call c__law_good_clocks (hr.mono (by decide)) (da_cons (de_ix (dt_var 0) (DE.t de_int)) da_nil))))) (dw_or1 (db_not (db_chain op_le od_le op_le od_le (DE.t de_int) (DE.t (de_ix (dt_var 0) (DE.t de_int))) (DE.t de_int)))))) (dss_one (ds_ret (DE.t de_bl))) dss_nil)
      (dss_cons (ds_setO 1 sc__law_good.nd (df_lst da_nil))
      (dss_cons (ds_for PassesOwn.never rfl (di_range1 h_range (DE.t (de_len h_len (DE.t (de_ix (dt_var 0) (DE.t de_int)))))) (dg_name 2 sc__law_good.nd) (dss_cons (ds_set 3 sc__law_good.nd (de_ix (DE.t (de_ix (dt_var 0) (DE.t de_int))) (dt_var 2)))
      (dss_cons (ds_if (DW.toB (dw_or (db_not (db_tru (DE.t (de_call c__law_is_name (hr.mono (by decide)) (da_cons (de_ix (dt_var 3) (DE.t de_int)) da_nil))))) (dw_or (db_cmp op_inAll od_inA (DE.t (de_ix (dt_var 3) (DE.t de_int))) (dt_var 1)) (dw_or1 (db_cmp op_notInAll od_notInA (DE.t (de_ix (dt_var 3) (DE.t de_int))) (DF.t (df_lc (own := [("clock", 6)]) rfl sc__law_good.nd (dit_list (DE.t (de_ix (dt_var 0) (DE.t de_int)))) (blkOk_by (N := N__law_good) (sc := defScope s__law_good) (by decide +kernel)) (by decide) (fun _ _ _ _ _ => (dg_name 6 sc__law_good.nd)) (fun _ _ _ _ _ => dts_nil) (fun _ _ _ _ _ => (de_ix (dt_var 6) (DE.t de_int)))))))))) (dss_one (ds_ret (DE.t de_bl))) dss_nil)
      (dss_cons (ds_if (db_cmp (op_neAll hr) od_ne (DE.t (de_isN (DE.t (de_ix (dt_var 3) (DE.t de_int))))) (DE.t (de_isN (DE.t (de_ix (dt_var 3) (DE.t de_int)))))) (dss_one (ds_ret (DE.t de_bl))) dss_nil)
      (dss_cons (ds_if (DW.toB (dw_and (db_notN (DE.t (de_ix (dt_var 3) (DE.t de_int)))) (dw_and1 (db_cmp op_gt od_gt (DE.t (de_ix (dt_var 3) (DE.t de_int))) (DE.t (de_ix (dt_var 3) (DE.t de_int))))))) (dss_one (ds_ret (DE.t de_bl))) dss_nil)
      (dss_cons (ds_if (db_notN (DE.t (de_ix (dt_var 3) (DE.t de_int)))) (dss_cons (ds_set 4 sc__law_good.nd (de_callT c__law_number_of (hr.mono (by decide)) (dat_cons (dt_var 1) (dat_cons (DE.t (de_ix (dt_var 3) (DE.t de_int))) dat_nil))))
      (dss_cons (ds_if (db_cmp op_lt od_lt (dt_var 4) (DE.t de_int)) (dss_one (ds_ret (DE.t de_bl))) dss_nil)
      (dss_cons (ds_set 5 sc__law_good.nd (de_ix (DE.t (de_ix (dt_var 0) (DE.t de_int))) (dt_var 4)))
      (dss_one (ds_if (DW.toB (dw_and (db_cmp (op_eqAll hr) od_eq (DE.t (de_ix (dt_var 5) (DE.t de_int))) (DE.t (de_ix (dt_var 3) (DE.t de_int)))) (dw_and (db_notN (DE.t (de_ix (dt_var 5) (DE.t de_int)))) (dw_and1 (db_notN (DE.t (de_ix (dt_var 3) (DE.t de_int)))))))) (dss_one (ds_if (DW.toB (dw_or (db_cmp op_lt od_lt (DE.t (de_ix (dt_var 3) (DE.t de_int))) (DE.t (de_ix (dt_var 5) (DE.t de_int)))) (dw_or1 (db_cmp op_gt od_gt (DE.t (de_ix (dt_var 3) (DE.t de_int))) (DE.t (de_ix (dt_var 5) (DE.t de_int))))))) (dss_one (ds_ret (DE.t de_bl))) dss_nil)) dss_nil))))) dss_nil)
      (dss_one (ds_app 1 (de_ix (dt_var 3) (DE.t de_int))))))))))
      (dss_one (ds_ret (DE.t de_bl)))))))
theorem bd__law_good (kV doc pm : Value) (an : Option Addr) (cdv ct : Value) (us : List Value) (hl : us.length = ["shape"].length) : bindArgs (PySem.W.fnOf "_law_good" "_law_good" (defArgs s__law_good) (defBody s__law_good) (defScope s__law_good) .none kV doc pm an cdv ct) ⟨us, []⟩ = pure ((["shape"] : List Str).zip us) := match us, hl with | [_], _ => rfl
theorem cal__law_good (F : Stands K mg "_law_good" s__law_good) (c__law_good_clocks : Cal P w K mg base "_law_good_clocks" 2 1 m__law_good_clocks) (c__law_is_name : Cal P w K mg base "_law_is_name" 1 1 m__law_is_name) (c__law_number_of : Cal P w K mg base "_law_number_of" 1 2 m__law_number_of) (h_len : mg "len" = none) (h_range : mg "range" = none) : Cal P w K mg base "_law_good" 3 1 m__law_good :=
  cal_of F bd__law_good fun F => fn__law_good F c__law_good_clocks c__law_is_name c__law_number_of h_len h_range

abbrev s__law_bad_name : Stmt := topS 36
abbrev N__law_bad_name : List Str := ["script", "at", "reserved", "names"]
theorem sc__law_bad_name : FnScope N__law_bad_name ["script", "at"] (defScope s__law_bad_name) := ⟨rfl, rfl, rfl, by decide +kernel, rfl, by decide +kernel, by decide +kernel⟩
def b__law_bad_name : En → Option Out :=
      (mSeq (mSet 2 (mList (mLst (mCons (mC (.str "all")) (mCons (mC (.str "and")) (mCons (mC (.str "or")) (mCons (mC (.str "not")) (mCons (mC (.str "some")) (mCons (mC (.str "every")) (mCons (mC (.str "row")) (mCons (mC (.str "first")) (mCons (mC (.str "from")) (mCons (mC (.str "to")) (mCons (mC (.str "at")) (mCons (mC (.str "in")) mNil)))))))))))))))
      (mSeq (mSet 3 (mList (mLst (mCons (mC (.str "")) (mCons (mC (.str "Ab")) (mCons (mC (.str "7b")) (mCons (mC (.str "a_b")) (mCons (mC (.str "abcdefghijklm")) (mCons (mC (.str "a b")) (mCons (mC (.str "ab ")) (mCons (mC (.str "a-")) (mCons (mBin ixD (mVarT 2) (mCall 4 m__law_draw (mCons (mVar 0) (mCons (mVar 1) (mCons (mC (.int 11)) (mCons (mC (.int 12)) mNil)))))) mNil))))))))))))
      (mRet (mBin ixD (mVarT 3) (mBin minD (mC (.int 8)) (mCall 4 m__law_draw (mCons (mVar 0) (mCons (mVar 1) (mCons (mC (.int 10)) (mCons (mC (.int 12)) mNil))))))))))
def m__law_bad_name : List D → Option D := callM 2 4 b__law_bad_name
theorem fn__law_bad_name {f : Addr} {fd : FuncData} (F : FunD K "_law_bad_name" "_law_bad_name" (defArgs s__law_bad_name) (defBody s__law_bad_name) (defScope s__law_bad_name) [] [] f fd) (c__law_draw : Cal P w K mg base "_law_draw" 2 4 m__law_draw) (h_min : mg "min" = none) : FnOk P w K mg base CX0 3 f fd ["script", "at"] (spD K 2 m__law_bad_name) :=
  fn_mk (N := N__law_bad_name) (m := b__law_bad_name) F sc__law_bad_name rfl (fun cdv A outer s H E hr =>
      (dss_cons (ds_set 2 sc__law_bad_name.nd (DF.toE (df_lst (da_cons de_str (da_cons de_str (da_cons de_str (da_cons de_str (da_cons de_str (da_cons de_str (da_cons de_str (da_cons de_str (da_cons de_str (da_cons de_str (da_cons de_str (da_cons de_str da_nil)))))))))))))))
      (dss_cons (ds_set 3 sc__law_bad_name.nd (DF.toE (df_lst (da_cons de_str (da_cons de_str (da_cons de_str (da_cons de_str (da_cons de_str (da_cons de_str (da_cons de_str (da_cons de_str (da_cons (de_ix (dt_var 2) (DE.t (de_call c__law_draw (hr.mono (by decide)) (da_cons (de_var 0) (da_cons (de_var 1) (da_cons de_int (da_cons de_int da_nil))))))) da_nil))))))))))))
      (dss_one (ds_ret (DE.t (de_ix (dt_var 3) (DE.t (de_min2 rfl h_min (DE.t de_int) (DE.t (de_call c__law_draw (hr.mono (by decide)) (da_cons (de_var 0) (da_cons (de_var 1) (da_cons de_int (da_cons de_int da_nil)))))))))))))))
theorem bd__law_bad_name (kV doc pm : Value) (an : Option Addr) (cdv ct : Value) (us : List Value) (hl : us.length = ["script", "at"].length) : bindArgs (PySem.W.fnOf "_law_bad_name" "_law_bad_name" (defArgs s__law_bad_name) (defBody s__law_bad_name) (defScope s__law_bad_name) .none kV doc pm an cdv ct) ⟨us, []⟩ = pure ((["script", "at"] : List Str).zip us) := match us, hl with | [_, _], _ => rfl
theorem cal__law_bad_name (F : Stands K mg "_law_bad_name" s__law_bad_name) (c__law_draw : Cal P w K mg base "_law_draw" 2 4 m__law_draw) (h_min : mg "min" = none) : Cal P w K mg base "_law_bad_name" 3 2 m__law_bad_name :=
  cal_of F bd__law_bad_name fun F => fn__law_bad_name F c__law_draw h_min

abbrev s__law_spoilt_clocks : Stmt := topS 37
abbrev N__law_spoilt_clocks : List Str := ["script", "at", "clocks", "kind", "j", "move", "k"]
theorem sc__law_spoilt_clocks : FnScope N__law_spoilt_clocks ["script", "at", "clocks"] (defScope s__law_spoilt_clocks) := ⟨rfl, rfl, rfl, by decide +kernel, rfl, by decide +kernel, by decide +kernel⟩
def b__law_spoilt_clocks : En → Option Out :=
      (mSeq (mSet 3 (mCall 4 m__law_draw (mCons (mVar 0) (mCons (mVar 1) (mCons (mC (.int 0)) (mCons (mC (.int 17)) mNil))))))
      (mSeq (mIfS (mOr (fun E => ((mBin eqD (mVarT 2) (mList (mLst mNil))) E).bind blOf) (fun E => ((mBin (intOp fun i j => .bl (decide (j < i))) (mVarT 3) (mC (.int 5))) E).bind blOf)) (mRet (mVarT 2)) mNext)
      (mSeq (mSet 4 (mCall 4 m__law_draw (mCons (mVar 0) (mCons (mVar 1) (mCons (mC (.int 1)) (mCons (mUn lenD (mVarT 2)) mNil))))))
      (mSeq (mSet 5 (mBin addD (mC (.int 1)) (mCall 4 m__law_draw (mCons (mVar 0) (mCons (mVar 1) (mCons (mC (.int 3)) (mCons (mC (.int 5)) mNil)))))))
      (mSeq (mIfS (fun E => ((mBin eqD (mVarT 3) (mC (.int 0))) E).bind blOf) (mRetF (fun E => ((mList (fun E => ((mList (fun E => (((mVarT 2) E).bind lstOf).bind fun ds => ((fun _ => some none) E).bind fun l => ((fun E => ((mVarT 4) E).bind inOf) E).map fun h => cutD ds l h)) E).bind fun x => ((mList (mLst (mCons (mTup (mCons (mCall 2 m__law_bad_name (mCons (mVar 0) (mCons (mVar 1) mNil))) (mCons (mBin ixD (mBin ixD (mVarT 2) (mVarT 4)) (mC (.int 1))) mNil))) mNil))) E).bind fun y => catD x y)) E).bind fun x => ((mList (fun E => (((mVarT 2) E).bind lstOf).bind fun ds => ((fun E => ((mBin addD (mVarT 4) (mC (.int 1))) E).bind inOf) E).bind fun l => ((fun _ => some none) E).map fun h => cutD ds l h)) E).bind fun y => catD x y)) mNext)
      (mSeq (mIfS (fun E => ((mBin eqD (mVarT 3) (mC (.int 1))) E).bind blOf) (mRetF (fun E => ((mVarT 2) E).bind fun x => ((mList (mLst (mCons (mTup (mCons (mBin ixD (mBin ixD (mVarT 2) (mVarT 4)) (mC (.int 0))) (mCons (mVar 5) mNil))) mNil))) E).bind fun y => catD x y)) mNext)
      (mSeq (mIfS (fun E => ((mBin eqD (mVarT 3) (mC (.int 2))) E).bind blOf) (mRetF (fun E => ((mList (fun E => ((mList (fun E => (((mVarT 2) E).bind lstOf).bind fun ds => ((fun _ => some none) E).bind fun l => ((fun E => ((mVarT 4) E).bind inOf) E).map fun h => cutD ds l h)) E).bind fun x => ((mList (mLst (mCons (mTup (mCons (mBin ixD (mBin ixD (mVarT 2) (mVarT 4)) (mC (.int 0))) (mCons (mUn negD (mVarT 5)) mNil))) mNil))) E).bind fun y => catD x y)) E).bind fun x => ((mList (fun E => (((mVarT 2) E).bind lstOf).bind fun ds => ((fun E => ((mBin addD (mVarT 4) (mC (.int 1))) E).bind inOf) E).bind fun l => ((fun _ => some none) E).map fun h => cutD ds l h)) E).bind fun y => catD x y)) mNext)
      (mSeq (mIfS (fun E => ((mBin eqD (mVarT 3) (mC (.int 3))) E).bind blOf) (mRetF (fun E => ((mList (fun E => ((mList (fun E => (((mVarT 2) E).bind lstOf).bind fun ds => ((fun _ => some none) E).bind fun l => ((fun E => ((mVarT 4) E).bind inOf) E).map fun h => cutD ds l h)) E).bind fun x => ((mList (mLst (mCons (mTup (mCons (mBin ixD (mBin ixD (mVarT 2) (mVarT 4)) (mC (.int 0))) (mCons (mBin addD (mC (.int 1000000)) (mVarT 5)) mNil))) mNil))) E).bind fun y => catD x y)) E).bind fun x => ((mList (fun E => (((mVarT 2) E).bind lstOf).bind fun ds => ((fun E => ((mBin addD (mVarT 4) (mC (.int 1))) E).bind inOf) E).bind fun l => ((fun _ => some none) E).map fun h => cutD ds l h)) E).bind fun y => catD x y)) mNext)
      (mSeq (mIfS (fun E => ((mBin eqD (mVarT 3) (mC (.int 4))) E).bind blOf) (mRetF (mLst mNil)) mNext)
      (mRetF (fun E => ((mVarT 2) E).bind fun x => ((mList (mComp [6] (fun E => ((mBin (intOp fun i j => .int (i - j)) (mC (.int 7)) (mUn lenD (mVarT 2))) E).bind rg1) (gM 6) mYes (mTup (mCons (mBin addD (mC (.str "t")) (mUn strI (mVarT 6))) (mCons (mVar 5) mNil))))) E).bind fun y => catD x y)))))))))))
def m__law_spoilt_clocks : List D → Option D := callM 3 7 b__law_spoilt_clocks
theorem fn__law_spoilt_clocks {f : Addr} {fd : FuncData} (F : FunD K "_law_spoilt_clocks" "_law_spoilt_clocks" (defArgs s__law_spoilt_clocks) (defBody s__law_spoilt_clocks) (defScope s__law_spoilt_clocks) [] [] f fd) (c__law_draw : Cal P w K mg base "_law_draw" 2 4 m__law_draw) (c__law_bad_name : Cal P w K mg base "_law_bad_name" 3 2 m__law_bad_name) (h_len : mg "len" = none) (h_range : mg "range" = none) (h_str : mg "str" = none) : FnOk P w K mg base CX0 4 f fd ["script", "at", "clocks"] (spD K 3 m__law_spoilt_clocks) :=
  fn_mk (N := N__law_spoilt_clocks) (m := b__law_spoilt_clocks) F sc__law_spoilt_clocks rfl (fun cdv A outer s H E hr =>
      (dss_cons (ds_set 3 sc__law_spoilt_clocks.nd (de_call c__law_draw (hr.mono (by decide)) (da_cons (de_var 0) (da_cons (de_var 1) (da_cons de_int (da_cons de_int da_nil))))))
      (dss_cons (ds_if (DW.toB (dw_or (db_cmp (op_eqAll hr) od_eq (dt_var 2) (DF.t (df_lst da_nil))) (dw_or1 (db_cmp op_gt od_gt (dt_var 3) (DE.t de_int))))) (dss_one (ds_ret (dt_var 2))) dss_nil)
      (dss_cons (ds_set 4 sc__law_spoilt_clocks.nd (de_call c__law_draw (hr.mono (by decide)) (da_cons (de_var 0) (da_cons (de_var 1) (da_cons de_int (da_cons (de_len h_len (dt_var 2)) da_nil))))))
      (dss_cons (ds_set 5 sc__law_spoilt_clocks.nd (de_add (DE.t de_int) (DE.t (de_call c__law_draw (hr.mono (by decide)) (da_cons (de_var 0) (da_cons (de_var 1) (da_cons de_int (da_cons de_int da_nil))))))))
      (dss_cons (ds_if (db_cmp (op_eqAll hr) od_eq (dt_var 3) (DE.t de_int)) (dss_one (ds_retF (df_add (DF.t (df_add (DF.t (df_slice (dt_var 2) do_none (do_some (dt_var 4)))) (DF.t (df_lst (da_cons (de_tup (da_cons (de_call c__law_bad_name (hr.mono (by decide)) (da_cons (de_var 0) (da_cons (de_var 1) da_nil))) (da_cons (de_ix (DE.t (de_ix (dt_var 2) (dt_var 4))) (DE.t de_int)) da_nil))) da_nil))))) (DF.t (df_slice (dt_var 2) (do_some (DE.t (de_add (dt_var 4) (DE.t de_int)))) do_none))))) dss_nil)
      (dss_cons (ds_if (db_cmp (op_eqAll hr) od_eq (dt_var 3) (DE.t de_int)) (dss_one (ds_retF (df_add (dt_var 2) (DF.t (df_lst (da_cons (de_tup (da_cons (de_ix (DE.t (de_ix (dt_var 2) (dt_var 4))) (DE.t de_int)) (da_cons (de_var 5) da_nil))) da_nil)))))) dss_nil)
      (dss_cons (ds_if (db_cmp (op_eqAll hr) od_eq (dt_var 3) (DE.t de_int)) (dss_one (ds_retF (df_add (DF.t (df_add (DF.t (df_slice (dt_var 2) do_none (do_some (dt_var 4)))) (DF.t (df_lst (da_cons (de_tup (da_cons (de_ix (DE.t (de_ix (dt_var 2) (dt_var 4))) (DE.t de_int)) (da_cons (de_neg (dt_var 5)) da_nil))) da_nil))))) (DF.t (df_slice (dt_var 2) (do_some (DE.t (de_add (dt_var 4) (DE.t de_int)))) do_none))))) dss_nil)
      (dss_cons (ds_if (db_cmp (op_eqAll hr) od_eq (dt_var 3) (DE.t de_int)) (dss_one (ds_retF (df_add (DF.t (df_add (DF.t (df_slice (dt_var 2) do_none (do_some (dt_var 4)))) (DF.t (df_lst (da_cons (de_tup (da_cons (de_ix (DE.t (de_ix (dt_var 2) (dt_var 4))) (DE.t de_int)) (da_cons (de_add (DE.t de_int) (dt_var 5)) da_nil))) da_nil))))) (DF.t (df_slice (dt_var 2) (do_some (DE.t (de_add (dt_var 4) (DE.t de_int)))) do_none))))) dss_nil)
      (dss_cons (ds_if (db_cmp (op_eqAll hr) od_eq (dt_var 3) (DE.t de_int)) (dss_one (ds_retF (df_lst da_nil))) dss_nil)
      (dss_one (ds_retF (df_add (dt_var 2) (DF.t (df_lc (own := [("k", 6)]) rfl sc__law_spoilt_clocks.nd (DI.t (di_range1 h_range (DE.t (de_sub (DE.t de_int) (DE.t (de_len h_len (dt_var 2))))))) (blkOk_by (N := N__law_spoilt_clocks) (sc := defScope s__law_spoilt_clocks) (by decide +kernel)) (by decide) (fun _ _ _ _ _ => (dg_name 6 sc__law_spoilt_clocks.nd)) (fun _ _ _ _ _ => dts_nil) (fun _ _ _ _ _ => (de_tup (da_cons (de_add (DE.t de_str) (DE.t (de_strI h_str (dt_var 6)))) (da_cons (de_var 5) da_nil)))))))))))))))))))
theorem bd__law_spoilt_clocks (kV doc pm : Value) (an : Option Addr) (cdv ct : Value) (us : List Value) (hl : us.length = ["script", "at", "clocks"].length) : bindArgs (PySem.W.fnOf "_law_spoilt_clocks" "_law_spoilt_clocks" (defArgs s__law_spoilt_clocks) (defBody s__law_spoilt_clocks) (defScope s__law_spoilt_clocks) .none kV doc pm an cdv ct) ⟨us, []⟩ = pure ((["script", "at", "clocks"] : List Str).zip us) := match us, hl with | [_, _, _], _ => rfl
theorem cal__law_spoilt_clocks (F : Stands K mg "_law_spoilt_clocks" s__law_spoilt_clocks) (c__law_draw : Cal P w K mg base "_law_draw" 2 4 m__law_draw) (c__law_bad_name : Cal P w K mg base "_law_bad_name" 3 2 m__law_bad_name) (h_len : mg "len" = none) (h_range : mg "range" = none) (h_str : mg "str" = none) : Cal P w K mg base "_law_spoilt_clocks" 4 3 m__law_spoilt_clocks :=
  cal_of F bd__law_spoilt_clocks fun F => fn__law_spoilt_clocks F c__law_draw c__law_bad_name h_len h_range h_str

abbrev s__law_bad_spans : Stmt := topS 38
abbrev N__law_bad_spans : List Str := ["script", "at", "home", "spans", "spot", "kind", "move", "side"]
theorem sc__law_bad_spans : FnScope N__law_bad_spans ["script", "at", "home", "spans", "spot"] (defScope s__law_bad_spans) := ⟨rfl, rfl, rfl, by decide +kernel, rfl, by decide +kernel, by decide +kernel⟩
def b__law_bad_spans : En → Option Out :=
      (mSeq (mSet 5 (mCall 4 m__law_draw (mCons (mVar 0) (mCons (mVar 1) (mCons (mC (.int 0)) (mCons (mC (.int 17)) mNil))))))
      (mSeq (mSet 6 (mBin addD (mC (.int 1)) (mCall 4 m__law_draw (mCons (mVar 0) (mCons (mVar 1) (mCons (mC (.int 3)) (mCons (mC (.int 5)) mNil)))))))
      (mSeq (mIfS (fun E => ((mBin eqD (mVarT 5) (mC (.int 8))) E).bind blOf) (mRetF (mLst (mCons (mTup (mCons (mCall 2 m__law_bad_name (mCons (mVar 0) (mCons (mVar 1) mNil))) (mCons (mC .non) (mCons (mVar 2) (mCons (mC (.int 1)) (mCons (mC (.int 2)) mNil)))))) mNil))) mNext)
      (mSeq (mIfS (mAnd (fun E => ((mBin eqD (mVarT 5) (mC (.int 9))) E).bind blOf) (fun E => ((mBin neD (mVarT 3) (mList (mLst mNil))) E).bind blOf)) (mRetF (mLst (mCons (mTup (mCons (mBin ixD (mBin ixD (mVarT 3) (mCall 4 m__law_draw (mCons (mVar 0) (mCons (mVar 1) (mCons (mC (.int 4)) (mCons (mUn lenD (mVarT 3)) mNil)))))) (mC (.int 0))) (mCons (mC .non) (mCons (mVar 2) (mCons (mC (.int 1)) (mCons (mC (.int 2)) mNil)))))) mNil))) mNext)
      (mSeq (mIfS (fun E => ((mBin eqD (mVarT 5) (mC (.int 9))) E).bind blOf) (mRetF (mLst (mCons (mTup (mCons (mC (.str "t1")) (mCons (mC .non) (mCons (mVar 2) (mCons (mC (.int 1)) (mCons (mC (.int 2)) mNil)))))) (mCons (mTup (mCons (mC (.str "t1")) (mCons (mC .non) (mCons (mVar 2) (mCons (mC (.int 1)) (mCons (mC (.int 2)) mNil)))))) mNil)))) mNext)
      (mSeq (mIfS (mAnd (fun E => ((mBin eqD (mVarT 5) (mC (.int 10))) E).bind blOf) (fun E => ((mBin (intOp fun i j => .bl (decide (i < j))) (mVarT 4) (mUn lenD (mVarT 3))) E).bind blOf)) (mRetF (mLst (mCons (mTup (mCons (mC (.str "t1")) (mCons (mBin ixD (mBin ixD (mVarT 3) (mBin addD (mVarT 4) (mCall 4 m__law_draw (mCons (mVar 0) (mCons (mVar 1) (mCons (mC (.int 4)) (mCons (mBin (intOp fun i j => .int (i - j)) (mUn lenD (mVarT 3)) (mVarT 4)) mNil))))))) (mC (.int 0))) (mCons (mVar 2) (mCons (mC (.int 1)) (mCons (mC (.int 2)) mNil)))))) mNil))) mNext)
      (mSeq (mIfS (fun E => ((mBin eqD (mVarT 5) (mC (.int 10))) E).bind blOf) (mRetF (mLst (mCons (mTup (mCons (mC (.str "t1")) (mCons (mC (.str "t1")) (mCons (mVar 2) (mCons (mC (.int 1)) (mCons (mC (.int 2)) mNil)))))) mNil))) mNext)
      (mSeq (mIfS (fun E => ((mBin eqD (mVarT 5) (mC (.int 11))) E).bind blOf) (mRetF (mLst (mCons (mTup (mCons (mC (.str "t1")) (mCons (mC (.str "t")) (mCons (mVar 2) (mCons (mC (.int 1)) (mCons (mC (.int 2)) mNil)))))) mNil))) mNext)
      (mSeq (mIfS (fun E => ((mBin eqD (mVarT 5) (mC (.int 12))) E).bind blOf) (mRetF (mLst (mCons (mTup (mCons (mC (.str "t1")) (mCons (mC .non) (mCons (mC (.str "t")) (mCons (mC (.int 1)) (mCons (mC (.int 2)) mNil)))))) mNil))) mNext)
      (mSeq (mIfS (fun E => ((mBin eqD (mVarT 5) (mC (.int 13))) E).bind blOf) (mRetF (mLst (mCons (mTup (mCons (mC (.str "t1")) (mCons (mC .non) (mCons (mVar 2) (mCons (mBin addD (mC (.int 1)) (mVarT 6)) (mCons (mC (.int 1)) mNil)))))) mNil))) mNext)
      (mSeq (mIfS (fun E => ((mBin eqD (mVarT 5) (mC (.int 14))) E).bind blOf) (mRetF (fun E => (((mList (mLst (mCons (mTup (mCons (mC (.str "t1")) (mCons (mC .non) (mCons (mVar 2) (mCons (mC .non) (mCons (mC (.int 1)) mNil)))))) (mCons (mTup (mCons (mC (.str "t1")) (mCons (mC .non) (mCons (mVar 2) (mCons (mC (.int 1)) (mCons (mC .non) mNil)))))) mNil)))) E).bind lstOf).bind fun ds => ((fun E => ((mBin (intOpC divOk fun i j => .int (i / j)) (mVarT 6) (mC (.int 3))) E).bind inOf) E).bind fun l => ((fun E => ((mBin addD (mBin (intOpC divOk fun i j => .int (i / j)) (mVarT 6) (mC (.int 3))) (mC (.int 1))) E).bind inOf) E).map fun h => cutD ds l h)) mNext)
      (mSeq (mIfS (fun E => ((mBin eqD (mVarT 5) (mC (.int 15))) E).bind blOf) (mSeq (mSet 7 (mBin ixD (mList (mLst (mCons (mTup (mCons (mBin (intOp fun i j => .int (i - j)) (mC (.int 10)) (mVarT 6)) (mCons (mC (.int 20)) mNil))) (mCons (mTup (mCons (mC (.int 10)) (mCons (mBin addD (mC (.int 20)) (mVarT 6)) mNil))) (mCons (mTup (mCons (mBin (intOp fun i j => .int (i - j)) (mC (.int 10)) (mVarT 6)) (mCons (mBin addD (mC (.int 20)) (mVarT 6)) mNil))) mNil))))) (mCall 4 m__law_draw (mCons (mVar 0) (mCons (mVar 1) (mCons (mC (.int 5)) (mCons (mC (.int 3)) mNil)))))))
      (mRetF (mLst (mCons (mTup (mCons (mC (.str "t1")) (mCons (mC .non) (mCons (mVar 2) (mCons (mC (.int 10)) (mCons (mC (.int 20)) mNil)))))) (mCons (mTup (mCons (mC (.str "t2")) (mCons (mC (.str "t1")) (mCons (mVar 2) (mCons (mBin ixD (mVarT 7) (mC (.int 0))) (mCons (mBin ixD (mVarT 7) (mC (.int 1))) mNil)))))) mNil))))) mNext)
      (mRetF (mLst mNil))))))))))))))
def m__law_bad_spans : List D → Option D := callM 5 8 b__law_bad_spans
theorem fn__law_bad_spans {f : Addr} {fd : FuncData} (F : FunD K "_law_bad_spans" "_law_bad_spans" (defArgs s__law_bad_spans) (defBody s__law_bad_spans) (defScope s__law_bad_spans) [] [] f fd) (c__law_draw : Cal P w K mg base "_law_draw" 2 4 m__law_draw) (c__law_bad_name : Cal P w K mg base "_law_bad_name" 3 2 m__law_bad_name) (h_len : mg "len" = none) : FnOk P w K mg base CX0 4 f fd ["script", "at", "home", "spans", "spot"] (spD K 5 m__law_bad_spans) :=
  fn_mk (N := N__law_bad_spans) (m := b__law_bad_spans) F sc__law_bad_spans rfl (fun cdv A outer s H E hr =>
      (dss_cons (ds_set 5 sc__law_bad_spans.nd (de_call c__law_draw (hr.mono (by decide)) (da_cons (de_var 0) (da_cons (de_var 1) (da_cons de_int (da_cons de_int da_nil))))))
      (dss_cons (ds_set 6 sc__law_bad_spans.nd (de_add (DE.t de_int) (DE.t (de_call c__law_draw (hr.mono (by decide)) (da_cons (de_var 0) (da_cons (de_var 1) (da_cons de_int (da_cons de_int da_nil))))))))
      (dss_cons (ds_if (db_cmp (op_eqAll hr) od_eq (dt_var 5) (DE.t de_int)) (dss_one (ds_retF (df_lst (da_cons (de_tup (da_cons (de_call c__law_bad_name (hr.mono (by decide)) (da_cons (de_var 0) (da_cons (de_var 1) da_nil))) (da_cons de_non (da_cons (de_var 2) (da_cons de_int (da_cons de_int da_nil)))))) da_nil)))) dss_nil)
      (dss_cons (ds_if (DW.toB (dw_and (db_cmp (op_eqAll hr) od_eq (dt_var 5) (DE.t de_int)) (dw_and1 (db_cmp (op_neAll hr) od_ne (dt_var 3) (DF.t (df_lst da_nil)))))) (dss_one (ds_retF (df_lst (da_cons (de_tup (da_cons (de_ix (DE.t (de_ix (dt_var 3) (DE.t (de_call c__law_draw (hr.mono (by decide)) (da_cons (de_var 0) (da_cons (de_var 1) (da_cons de_int (da_cons (de_len h_len (dt_var 3)) da_nil)))))))) (DE.t de_int)) (da_cons de_non (da_cons (de_var 2) (da_cons de_int (da_cons de_int da_nil)))))) da_nil)))) dss_nil)
      (dss_cons (ds_if (db_cmp (op_eqAll hr) od_eq (dt_var 5) (DE.t de_int)) (dss_one (ds_retF (df_lst (da_cons (de_tup (da_cons de_str (da_cons de_non (da_cons (de_var 2) (da_cons de_int (da_cons de_int da_nil)))))) (da_cons (de_tup (da_cons de_str (da_cons de_non (da_cons (de_var 2) (da_cons de_int (da_cons de_int da_nil)))))) da_nil))))) dss_nil)
      (dss_cons (ds_if (DW.toB (dw_and (db_cmp (op_eqAll hr) od_eq (dt_var 5) (DE.t de_int)) (dw_and1 (db_cmp op_lt od_lt (dt_var 4) (DE.t (de_len h_len (dt_var 3))))))) (dss_one (ds_retF (df_lst (da_cons (de_tup (da_cons de_str (da_cons (de_ix (DE.t (de_ix (dt_var 3) (DE.t (de_add (dt_var 4) (DE.t (de_call c__law_draw (hr.mono (by decide)) (da_cons (de_var 0) (da_cons (de_var 1) (da_cons de_int (da_cons (de_sub (DE.t (de_len h_len (dt_var 3))) (dt_var 4)) da_nil)))))))))) (DE.t de_int)) (da_cons (de_var 2) (da_cons de_int (da_cons de_int da_nil)))))) da_nil)))) dss_nil)
      (dss_cons (ds_if (db_cmp (op_eqAll hr) od_eq (dt_var 5) (DE.t de_int)) (dss_one (ds_retF (df_lst (da_cons (de_tup (da_cons de_str (da_cons de_str (da_cons (de_var 2) (da_cons de_int (da_cons de_int da_nil)))))) da_nil)))) dss_nil)
      (dss_cons (ds_if (db_cmp (op_eqAll hr) od_eq (dt_var 5) (DE.t de_int)) (dss_one (ds_retF (df_lst (da_cons (de_tup (da_cons de_str (da_cons de_str (da_cons (de_var 2) (da_cons de_int (da_cons de_int da_nil)))))) da_nil)))) dss_nil)
      (dss_cons (ds_if (db_cmp (op_eqAll hr) od_eq (dt_var 5) (DE.t de_int)) (dss_one (ds_retF (df_lst (da_cons (de_tup (da_cons de_str (da_cons de_non (da_cons de_str (da_cons de_int (da_cons de_int da_nil)))))) da_nil)))) dss_nil)
      (dss_cons (ds_if (db_cmp (op_eqAll hr) od_eq (dt_var 5) (DE.t de_int)) (dss_one (ds_retF (df_lst (da_cons (de_tup (da_cons de_str (da_cons de_non (da_cons (de_var 2) (da_cons (de_add (DE.t de_int) (dt_var 6)) (da_cons de_int da_nil)))))) da_nil)))) dss_nil)
      (dss_cons (ds_if (db_cmp (op_eqAll hr) od_eq (dt_var 5) (DE.t de_int)) (dss_one (ds_retF (df_slice (DF.t (df_lst (da_cons (de_tup (da_cons de_str (da_cons de_non (da_cons (de_var 2) (da_cons de_non (da_cons de_int da_nil)))))) (da_cons (de_tup (da_cons de_str (da_cons de_non (da_cons (de_var 2) (da_cons de_int (da_cons de_non da_nil)))))) da_nil)))) (do_some (DE.t (de_fdiv (dt_var 6) (DE.t de_int)))) (do_some (DE.t (de_add (DE.t (de_fdiv (dt_var 6) (DE.t de_int))) (DE.t de_int))))))) dss_nil)
      (dss_cons (ds_if (db_cmp (op_eqAll hr) od_eq (dt_var 5) (DE.t de_int)) (dss_cons (ds_set 7 sc__law_bad_spans.nd (de_ix (DF.t (df_lst (da_cons (de_tup (da_cons (de_sub (DE.t de_int) (dt_var 6)) (da_cons de_int da_nil))) (da_cons (de_tup (da_cons de_int (da_cons (de_add (DE.t de_int) (dt_var 6)) da_nil))) (da_cons (de_tup (da_cons (de_sub (DE.t de_int) (dt_var 6)) (da_cons (de_add (DE.t de_int) (dt_var 6)) da_nil))) da_nil))))) (DE.t (de_call c__law_draw (hr.mono (by decide)) (da_cons (de_var 0) (da_cons (de_var 1) (da_cons de_int (da_cons de_int da_nil))))))))
      (dss_one (ds_retF (df_lst (da_cons (de_tup (da_cons de_str (da_cons de_non (da_cons (de_var 2) (da_cons de_int (da_cons de_int da_nil)))))) (da_cons (de_tup (da_cons de_str (da_cons de_str (da_cons (de_var 2) (da_cons (de_ix (dt_var 7) (DE.t de_int)) (da_cons (de_ix (dt_var 7) (DE.t de_int)) da_nil)))))) da_nil)))))) dss_nil)
      (dss_one (ds_retF (df_lst da_nil))))))))))))))))
theorem bd__law_bad_spans (kV doc pm : Value) (an : Option Addr) (cdv ct : Value) (us : List Value) (hl : us.length = ["script", "at", "home", "spans", "spot"].length) : bindArgs (PySem.W.fnOf "_law_bad_spans" "_law_bad_spans" (defArgs s__law_bad_spans) (defBody s__law_bad_spans) (defScope s__law_bad_spans) .none kV doc pm an cdv ct) ⟨us, []⟩ = pure ((["script", "at", "home", "spans", "spot"] : List Str).zip us) := match us, hl with | [_, _, _, _, _], _ => rfl
theorem cal__law_bad_spans (F : Stands K mg "_law_bad_spans" s__law_bad_spans) (c__law_draw : Cal P w K mg base "_law_draw" 2 4 m__law_draw) (c__law_bad_name : Cal P w K mg base "_law_bad_name" 3 2 m__law_bad_name) (h_len : mg "len" = none) : Cal P w K mg base "_law_bad_spans" 4 5 m__law_bad_spans :=
  cal_of F bd__law_bad_spans fun F => fn__law_bad_spans F c__law_draw c__law_bad_name h_len

abbrev s__law_moved : Stmt := topS 39
abbrev N__law_moved : List Str := ["script", "at", "spans", "j", "span", "move", "side", "moved"]
theorem sc__law_moved : FnScope N__law_moved ["script", "at", "spans"] (defScope s__law_moved) := ⟨rfl, rfl, rfl, by decide +kernel, rfl, by decide +kernel, by decide +kernel⟩
def b__law_moved : En → Option Out :=
      (mSeq (mIfS (mOr (fun E => ((mBin eqD (mVarT 2) (mList (mLst mNil))) E).bind blOf) (fun E => ((mBin neD (mCall 4 m__law_draw (mCons (mVar 0) (mCons (mVar 1) (mCons (mC (.int 0)) (mCons (mC (.int 17)) mNil))))) (mC (.int 16))) E).bind blOf)) (mRet (mVarT 2)) mNext)
      (mSeq (mSet 3 (mCall 4 m__law_draw (mCons (mVar 0) (mCons (mVar 1) (mCons (mC (.int 4)) (mCons (mUn lenD (mVarT 2)) mNil))))))
      (mSeq (mSet 4 (mBin ixD (mVarT 2) (mVarT 3)))
      (mSeq (mSet 5 (mBin addD (mC (.int 1)) (mCall 4 m__law_draw (mCons (mVar 0) (mCons (mVar 1) (mCons (mC (.int 3)) (mCons (mC (.int 5)) mNil)))))))
      (mSeq (mSet 6 (mBin ixD (mList (mLst (mCons (mTup (mCons (mUn negD (mVarT 5)) (mCons (mC (.int 0)) mNil))) (mCons (mTup (mCons (mC (.int 0)) (mCons (mVar 5) mNil))) (mCons (mTup (mCons (mVar 5) (mCons (mVar 5) mNil))) (mCons (mTup (mCons (mUn negD (mVarT 5)) (mCons (mUn negD (mVarT 5)) mNil))) mNil)))))) (mCall 4 m__law_draw (mCons (mVar 0) (mCons (mVar 1) (mCons (mC (.int 5)) (mCons (mC (.int 4)) mNil)))))))
      (mSeq (mSet 7 (mTup (mCons (mBin ixD (mVarT 4) (mC (.int 0))) (mCons (mBin ixD (mVarT 4) (mC (.int 1))) (mCons (mBin ixD (mVarT 4) (mC (.int 2))) (mCons (mVar 5) (mCons (mVar 5) mNil)))))))
      (mSeq (mIfS (mAnd (fun E => ((mBin ixD (mVarT 4) (mC (.int 3))) E).map (fun d => !isN d)) (fun E => ((mBin ixD (mVarT 4) (mC (.int 4))) E).map (fun d => !isN d))) (mSet 7 (mTup (mCons (mBin ixD (mVarT 4) (mC (.int 0))) (mCons (mBin ixD (mVarT 4) (mC (.int 1))) (mCons (mBin ixD (mVarT 4) (mC (.int 2))) (mCons (mBin addD (mBin ixD (mVarT 4) (mC (.int 3))) (mBin ixD (mVarT 6) (mC (.int 0)))) (mCons (mBin addD (mBin ixD (mVarT 4) (mC (.int 4))) (mBin ixD (mVarT 6) (mC (.int 1)))) mNil))))))) mNext)
      (mRetF (fun E => ((mList (fun E => ((mList (fun E => (((mVarT 2) E).bind lstOf).bind fun ds => ((fun _ => some none) E).bind fun l => ((fun E => ((mVarT 3) E).bind inOf) E).map fun h => cutD ds l h)) E).bind fun x => ((mList (mLst (mCons (mVar 7) mNil))) E).bind fun y => catD x y)) E).bind fun x => ((mList (fun E => (((mVarT 2) E).bind lstOf).bind fun ds => ((fun E => ((mBin addD (mVarT 3) (mC (.int 1))) E).bind inOf) E).bind fun l => ((fun _ => some none) E).map fun h => cutD ds l h)) E).bind fun y => catD x y)))))))))
def m__law_moved : List D → Option D := callM 3 8 b__law_moved
theorem fn__law_moved {f : Addr} {fd : FuncData} (F : FunD K "_law_moved" "_law_moved" (defArgs s__law_moved) (defBody s__law_moved) (defScope s__law_moved) [] [] f fd) (c__law_draw : Cal P w K mg base "_law_draw" 2 4 m__law_draw) (h_len : mg "len" = none) : FnOk P w K mg base CX0 3 f fd ["script", "at", "spans"] (spD K 3 m__law_moved) :=
  fn_mk (N := N__law_moved) (m := b__law_moved) F sc__law_moved rfl (fun cdv A outer s H E hr =>
      (dss_cons (ds_if (DW.toB (dw_or (db_cmp (op_eqAll hr) od_eq (dt_var 2) (DF.t (df_lst da_nil))) (dw_or1 (db_cmp (op_neAll hr) od_ne (DE.t (de_call c__law_draw (hr.mono (by decide)) (da_cons (de_var 0) (da_cons (de_var 1) (da_cons de_int (da_cons de_int da_nil)))))) (DE.t de_int))))) (dss_one (ds_ret (dt_var 2))) dss_nil)
      (dss_cons (ds_set 3 sc__law_moved.nd (de_call c__law_draw (hr.mono (by decide)) (da_cons (de_var 0) (da_cons (de_var 1) (da_cons de_int (da_cons (de_len h_len (dt_var 2)) da_nil))))))
      (dss_cons (ds_set 4 sc__law_moved.nd (de_ix (dt_var 2) (dt_var 3)))
      (dss_cons (ds_set 5 sc__law_moved.nd (de_add (DE.t de_int) (DE.t (de_call c__law_draw (hr.mono (by decide)) (da_cons (de_var 0) (da_cons (de_var 1) (da_cons de_int (da_cons de_int da_nil))))))))
      (dss_cons (ds_set 6 sc__law_moved.nd (de_ix (DF.t (df_lst (da_cons (de_tup (da_cons (de_neg (dt_var 5)) (da_cons de_int da_nil))) (da_cons (de_tup (da_cons de_int (da_cons (de_var 5) da_nil))) (da_cons (de_tup (da_cons (de_var 5) (da_cons (de_var 5) da_nil))) (da_cons (de_tup (da_cons (de_neg (dt_var 5)) (da_cons (de_neg (dt_var 5)) da_nil))) da_nil)))))) (DE.t (de_call c__law_draw (hr.mono (by decide)) (da_cons (de_var 0) (da_cons (de_var 1) (da_cons de_int (da_cons de_int da_nil))))))))
      (dss_cons (ds_set 7 sc__law_moved.nd (de_tup (da_cons (de_ix (dt_var 4) (DE.t de_int)) (da_cons (de_ix (dt_var 4) (DE.t de_int)) (da_cons (de_ix (dt_var 4) (DE.t de_int)) (da_cons (de_var 5) (da_cons (de_var 5) da_nil)))))))
      (dss_cons (ds_if (DW.toB (dw_and (db_notN (DE.t (de_ix (dt_var 4) (DE.t de_int)))) (dw_and1 (db_notN (DE.t (de_ix (dt_var 4) (DE.t de_int))))))) (dss_one (ds_set 7 sc__law_moved.nd (de_tup (da_cons (de_ix (dt_var 4) (DE.t de_int)) (da_cons (de_ix (dt_var 4) (DE.t de_int)) (da_cons (de_ix (dt_var 4) (DE.t de_int)) (da_cons (de_add (DE.t (de_ix (dt_var 4) (DE.t de_int))) (DE.t (de_ix (dt_var 6) (DE.t de_int)))) (da_cons (de_add (DE.t (de_ix (dt_var 4) (DE.t de_int))) (DE.t (de_ix (dt_var 6) (DE.t de_int)))) da_nil)))))))) dss_nil)
      (dss_one (ds_retF (df_add (DF.t (df_add (DF.t (df_slice (dt_var 2) do_none (do_some (dt_var 3)))) (DF.t (df_lst (da_cons (de_var 7) da_nil))))) (DF.t (df_slice (dt_var 2) (do_some (DE.t (de_add (dt_var 3) (DE.t de_int)))) do_none)))))))))))))
theorem bd__law_moved (kV doc pm : Value) (an : Option Addr) (cdv ct : Value) (us : List Value) (hl : us.length = ["script", "at", "spans"].length) : bindArgs (PySem.W.fnOf "_law_moved" "_law_moved" (defArgs s__law_moved) (defBody s__law_moved) (defScope s__law_moved) .none kV doc pm an cdv ct) ⟨us, []⟩ = pure ((["script", "at", "spans"] : List Str).zip us) := match us, hl with | [_, _, _], _ => rfl
theorem cal__law_moved (F : Stands K mg "_law_moved" s__law_moved) (c__law_draw : Cal P w K mg base "_law_draw" 2 4 m__law_draw) (h_len : mg "len" = none) : Cal P w K mg base "_law_moved" 3 3 m__law_moved :=
  cal_of F bd__law_moved fun F => fn__law_moved F c__law_draw h_len

abbrev s__law_spoilt : Stmt := topS 40
abbrev N__law_spoilt : List Str := ["script", "at", "shape", "kind", "spot", "move", "leap", "home", "bad", "spans"]
theorem sc__law_spoilt : FnScope N__law_spoilt ["script", "at", "shape"] (defScope s__law_spoilt) := ⟨rfl, rfl, rfl, by decide +kernel, rfl, by decide +kernel, by decide +kernel⟩
def b__law_spoilt : En → Option Out :=
      (mSeq (mSet 3 (mCall 4 m__law_draw (mCons (mVar 0) (mCons (mVar 1) (mCons (mC (.int 0)) (mCons (mC (.int 17)) mNil))))))
      (mSeq (mSet 4 (mCall 4 m__law_draw (mCons (mVar 0) (mCons (mVar 1) (mCons (mC (.int 2)) (mCons (mBin addD (mUn lenD (mBin ixD (mVarT 2) (mC (.int 1)))) (mC (.int 1))) mNil))))))
      (mSeq (mSet 5 (mBin addD (mC (.int 1)) (mCall 4 m__law_draw (mCons (mVar 0) (mCons (mVar 1) (mCons (mC (.int 3)) (mCons (mC (.int 5)) mNil)))))))
      (mSeq (mSet 6 (mBin ixD (mVarT 2) (mC (.int 2))))
      (mSeq (mIfS (fun E => ((mBin eqD (mVarT 3) (mC (.int 6))) E).bind blOf) (mSet 6 (mUn negD (mVarT 5))) mNext)
      (mSeq (mIfS (fun E => ((mBin eqD (mVarT 3) (mC (.int 7))) E).bind blOf) (mSet 6 (mBin addD (mC (.int 1000000)) (mVarT 5))) mNext)
      (mSeq (mSet 7 (mC (.str "t")))
      (mSeq (mIfS (fun E => ((mBin neD (mBin ixD (mVarT 2) (mC (.int 0))) (mList (mLst mNil))) E).bind blOf) (mSet 7 (mBin ixD (mBin ixD (mBin ixD (mVarT 2) (mC (.int 0))) (mCall 4 m__law_draw (mCons (mVar 0) (mCons (mVar 1) (mCons (mC (.int 1)) (mCons (mUn lenD (mBin ixD (mVarT 2) (mC (.int 0)))) mNil)))))) (mC (.int 0)))) mNext)
      (mSeq (mSet 8 (mCall 5 m__law_bad_spans (mCons (mVar 0) (mCons (mVar 1) (mCons (mVar 7) (mCons (mBin ixD (mVarT 2) (mC (.int 1))) (mCons (mVar 4) mNil)))))))
      (mSeq (mSet 9 (mCall 3 m__law_moved (mCons (mVar 0) (mCons (mVar 1) (mCons (mList (fun E => ((mList (fun E => ((mList (fun E => (((mBin ixD (mVarT 2) (mC (.int 1))) E).bind lstOf).bind fun ds => ((fun _ => some none) E).bind fun l => ((fun E => ((mVarT 4) E).bind inOf) E).map fun h => cutD ds l h)) E).bind fun x => ((mVarT 8) E).bind fun y => catD x y)) E).bind fun x => ((mList (fun E => (((mBin ixD (mVarT 2) (mC (.int 1))) E).bind lstOf).bind fun ds => ((fun E => ((mVarT 4) E).bind inOf) E).bind fun l => ((fun _ => some none) E).map fun h => cutD ds l h)) E).bind fun y => catD x y)) mNil)))))
      (mRetF (mLst (mCons (mCall 3 m__law_spoilt_clocks (mCons (mVar 0) (mCons (mVar 1) (mCons (mBin ixD (mVarT 2) (mC (.int 0))) mNil)))) (mCons (mVar 9) (mCons (mVar 6) mNil)))))))))))))))
def m__law_spoilt : List D → Option D := callM 3 10 b__law_spoilt
theorem fn__law_spoilt {f : Addr} {fd : FuncData} (F : FunD K "_law_spoilt" "_law_spoilt" (defArgs s__law_spoilt) (defBody s__law_spoilt) (defScope s__law_spoilt) [] [] f fd) (c__law_draw : Cal P w K mg base "_law_draw" 2 4 m__law_draw) (c__law_bad_spans : Cal P w K mg base "_law_bad_spans" 4 5 m__law_bad_spans) (c__law_moved : Cal P w K mg base "_law_moved" 3 3 m__law_moved) (c__law_spoilt_clocks : Cal P w K mg base "_law_spoilt_clocks" 4 3 m__law_spoilt_clocks) (h_len : mg "len" = none) : FnOk P w K mg base CX0 5 f fd ["script", "at", "shape"] (spD K 3 m__law_spoilt) :=
  fn_mk (N := N__law_spoilt) (m := b__law_spoilt) F sc__law_spoilt rfl (fun cdv A outer s H E hr =>
      (dss_cons (ds_set 3 sc__law_spoilt.nd (de_call c__law_draw (hr.mono (by decide)) (da_cons (de_var 0) (da_cons (de_var 1) (da_cons de_int (da_cons de_int da_nil))))))
      (dss_cons (ds_set 4 sc__law_spoilt.nd (de_call c__law_draw (hr.mono (by decide)) (da_cons (de_var 0) (da_cons (de_var 1) (da_cons de_int (da_cons (de_add (DE.t (de_len h_len (DE.t (de_ix (dt_var 2) (DE.t de_int))))) (DE.t de_int)) da_nil))))))
      (dss_cons (ds_set 5 sc__law_spoilt.nd (de_add (DE.t de_int) (DE.t (de_call c__law_draw (hr.mono (by decide)) (da_cons (de_var 0) (da_cons (de_var 1) (da_cons de_int (da_cons de_int da_nil))))))))
      (dss_cons (ds_set 6 sc__law_spoilt.nd (de_ix (dt_var 2) (DE.t de_int)))
      (dss_cons (ds_if (db_cmp (op_eqAll hr) od_eq (dt_var 3) (DE.t de_int)) (dss_one (ds_set 6 sc__law_spoilt.nd (de_neg (dt_var 5)))) dss_nil)
      (dss_cons (ds_if (db_cmp (op_eqAll hr) od_eq (dt_var 3) (DE.t de_int)) (dss_one (ds_set 6 sc__law_spoilt.nd (de_add (DE.t de_int) (dt_var 5)))) dss_nil)
      (dss_cons (ds_set 7 sc__law_spoilt.nd de_str)
      (dss_cons (ds_if (db_cmp (op_neAll hr) od_ne (DE.t (de_ix (dt_var 2) (DE.t de_int))) (DF.t (df_lst da_nil))) (dss_one (ds_set 7 sc__law_spoilt.nd (de_ix (DE.t (de_ix (DE.t (de_ix (dt_var 2) (DE.t de_int))) (DE.t (de_call c__law_draw (hr.mono (by decide)) (da_cons (de_var 0) (da_cons (de_var 1) (da_cons de_int (da_cons (de_len h_len (DE.t (de_ix (dt_var 2) (DE.t de_int)))) da_nil)))))))) (DE.t de_int)))) dss_nil)
      (dss_cons (ds_set 8 sc__law_spoilt.nd (de_call c__law_bad_spans (hr.mono (by decide)) (da_cons (de_var 0) (da_cons (de_var 1) (da_cons (de_var 7) (da_cons (de_ix (dt_var 2) (DE.t de_int)) (da_cons (de_var 4) da_nil)))))))
      (dss_cons (ds_set 9 sc__law_spoilt.nd (de_call c__law_moved (hr.mono (by decide)) (da_cons (de_var 0) (da_cons (de_var 1) (da_cons (DF.toE (df_add (DF.t (df_add (DF.t (df_slice (DE.t (de_ix (dt_var 2) (DE.t de_int))) do_none (do_some (dt_var 4)))) (dt_var 8))) (DF.t (df_slice (DE.t (de_ix (dt_var 2) (DE.t de_int))) (do_some (dt_var 4)) do_none)))) da_nil)))))
      (dss_one (ds_retF (df_lst (da_cons (de_call c__law_spoilt_clocks (hr.mono (by decide)) (da_cons (de_var 0) (da_cons (de_var 1) (da_cons (de_ix (dt_var 2) (DE.t de_int)) da_nil)))) (da_cons (de_var 9) (da_cons (de_var 6) da_nil)))))))))))))))))
theorem bd__law_spoilt (kV doc pm : Value) (an : Option Addr) (cdv ct : Value) (us : List Value) (hl : us.length = ["script", "at", "shape"].length) : bindArgs (PySem.W.fnOf "_law_spoilt" "_law_spoilt" (defArgs s__law_spoilt) (defBody s__law_spoilt) (defScope s__law_spoilt) .none kV doc pm an cdv ct) ⟨us, []⟩ = pure ((["script", "at", "shape"] : List Str).zip us) := match us, hl with | [_, _, _], _ => rfl
theorem cal__law_spoilt (F : Stands K mg "_law_spoilt" s__law_spoilt) (c__law_draw : Cal P w K mg base "_law_draw" 2 4 m__law_draw) (c__law_bad_spans : Cal P w K mg base "_law_bad_spans" 4 5 m__law_bad_spans) (c__law_moved : Cal P w K mg base "_law_moved" 3 3 m__law_moved) (c__law_spoilt_clocks : Cal P w K mg base "_law_spoilt_clocks" 4 3 m__law_spoilt_clocks) (h_len : mg "len" = none) : Cal P w K mg base "_law_spoilt" 5 3 m__law_spoilt :=
  cal_of F bd__law_spoilt fun F => fn__law_spoilt F c__law_draw c__law_bad_spans c__law_moved c__law_spoilt_clocks h_len

abbrev s__law_refused : Stmt := topS 41
abbrev N__law_refused : List Str := ["shape", "clocks", "spans", "e"]
theorem sc__law_refused : FnScope N__law_refused ["shape"] (defScope s__law_refused) := ⟨rfl, rfl, rfl, by decide +kernel, rfl, by decide +kernel, by decide +kernel⟩
noncomputable def b__law_refused : En → Option Out :=
      (mSeq (mSet 1 (mList (fun E => ((mBin ixD (mVarT 0) (mC (.int 0))) E).bind seqOf)))
      (mSeq (mSet 2 (mList (fun E => ((mBin ixD (mVarT 0) (mC (.int 1))) E).bind seqOf)))
      (mSeq (fun E => (mTry 3 (ktab [("BadTrace", true)]) (mDropX (mCallXL 3 mi_Trace (mApL (mLen 2 (mCons (mVar 1) (mCons (mVar 2) mNil))) (mLen 1 (mCons (mBin ixD (mVarT 0) (mC (.int 2))) mNil))))) (fun y a => (mRet (mAndV (mIsE 3 a (ktab [("BadTrace", true)] y)) (mAndV (mIsE 3 a (ktab [("BadTrace", true)] y)) (mAndV (mBin eqD (mVarT 1) (mBin ixD (mVarT 0) (mC (.int 0)))) (mBin eqD (mVarT 2) (mBin ixD (mVarT 0) (mC (.int 1))))))))) E).bind outX)
      (mRet (mC (.bl false))))))
noncomputable def m__law_refused : List D → Option D := callM 1 4 b__law_refused
theorem fn__law_refused {f : Addr} {fd : FuncData} (F : FunD K "_law_refused" "_law_refused" (defArgs s__law_refused) (defBody s__law_refused) (defScope s__law_refused) [] [] f fd) (i_Trace : CalIX P w K mg base "Trace" 4 3 2 ["hop"] [.int 0] mi_Trace) (eg_WatchError : mg "WatchError" = some (.ref (He.ga K "WatchError"))) (em_BadTrace_WatchError : PySem.W.exmOne K (.ref (He.ga K "BadTrace")) (.ref (He.ga K "WatchError")) = some true) (eg_BadTrace : mg "BadTrace" = some (.ref (He.ga K "BadTrace"))) (ec_BadTrace : ExcC K (He.ga K "BadTrace")) (ki_BadTrace_BadTrace : PySem.W.kitOne K (.ref (He.ga K "BadTrace")) (.ref (He.ga K "BadTrace")) = some true) (kb_BadTrace_ValueError : PySem.W.kitOne K (.ref (He.ga K "BadTrace")) (.type "ValueError") = some true) (h_list : mg "list" = none) (h_isinstance : mg "isinstance" = none) (h_ValueError : mg "ValueError" = none) : FnOk P w K mg base CX0 6 f fd ["shape"] (spD K 1 m__law_refused) :=
  fn_mk (N := N__law_refused) (m := b__law_refused) F sc__law_refused rfl (fun cdv A outer s H E hr =>
      (dss_cons (ds_set 1 sc__law_refused.nd (DF.toE (df_list h_list (DE.t (de_ix (dt_var 0) (DE.t de_int))))))
      (dss_cons (ds_set 2 sc__law_refused.nd (DF.toE (df_list h_list (DE.t (de_ix (dt_var 0) (DE.t de_int))))))
      (dss_cons (DX.toS (dx_try 3 rfl rfl sc__law_refused.nd takesN0 eg_WatchError (kt_cons em_BadTrace_WatchError kt_nil) (fun W2 pn xe tk hp => (dxs_one (dx_expr (dex_makeK i_Trace tk (hr.mono (by decide)) (dal_consE (de_var 1) (dal_consE (de_var 2) dal_nil)) (dk_cons (de_ix (dt_var 0) (DE.t de_int)) dk_nil))))) (fun a oe y pn hz hf => (dss_one (ds_ret (DE.t (de_and (de_isE 3 (kb := ktab [("BadTrace", true)] y) h_isinstance eg_BadTrace hz hf ((kt_cons (P := fun y b => ExcC K (He.ga K y) ∧ PySem.W.kitOne K (.ref (He.ga K y)) (.ref (He.ga K "BadTrace")) = some b) ⟨ec_BadTrace, ki_BadTrace_BadTrace⟩ kt_nil) y)) (de_and (de_isEb 3 (T := "ValueError") (kb := ktab [("BadTrace", true)] y) h_isinstance h_ValueError (by decide +kernel) hz hf ((kt_cons (P := fun y b => ExcC K (He.ga K y) ∧ PySem.W.kitOne K (.ref (He.ga K y)) (.type "ValueError") = some b) ⟨ec_BadTrace, kb_BadTrace_ValueError⟩ kt_nil) y)) (de_and (de_cmp (op_eqU hr.units) od_eq (dt_var 1) (DE.t (de_ix (dt_var 0) (DE.t de_int)))) (de_one (de_cmp (op_eqU hr.units) od_eq (dt_var 2) (DE.t (de_ix (dt_var 0) (DE.t de_int))))))))))))))
      (dss_one (ds_ret (DE.t de_bl)))))))
theorem bd__law_refused (kV doc pm : Value) (an : Option Addr) (cdv ct : Value) (us : List Value) (hl : us.length = ["shape"].length) : bindArgs (PySem.W.fnOf "_law_refused" "_law_refused" (defArgs s__law_refused) (defBody s__law_refused) (defScope s__law_refused) .none kV doc pm an cdv ct) ⟨us, []⟩ = pure ((["shape"] : List Str).zip us) := match us, hl with | [_], _ => rfl
theorem cal__law_refused (F : Stands K mg "_law_refused" s__law_refused) (i_Trace : CalIX P w K mg base "Trace" 4 3 2 ["hop"] [.int 0] mi_Trace) (eg_WatchError : mg "WatchError" = some (.ref (He.ga K "WatchError"))) (em_BadTrace_WatchError : PySem.W.exmOne K (.ref (He.ga K "BadTrace")) (.ref (He.ga K "WatchError")) = some true) (eg_BadTrace : mg "BadTrace" = some (.ref (He.ga K "BadTrace"))) (ec_BadTrace : ExcC K (He.ga K "BadTrace")) (ki_BadTrace_BadTrace : PySem.W.kitOne K (.ref (He.ga K "BadTrace")) (.ref (He.ga K "BadTrace")) = some true) (kb_BadTrace_ValueError : PySem.W.kitOne K (.ref (He.ga K "BadTrace")) (.type "ValueError") = some true) (h_list : mg "list" = none) (h_isinstance : mg "isinstance" = none) (h_ValueError : mg "ValueError" = none) : Cal P w K mg base "_law_refused" 6 1 m__law_refused :=
  cal_of F bd__law_refused fun F => fn__law_refused F i_Trace eg_WatchError em_BadTrace_WatchError eg_BadTrace ec_BadTrace ki_BadTrace_BadTrace kb_BadTrace_ValueError h_list h_isinstance h_ValueError

abbrev s__law_made : Stmt := topS 42
abbrev N__law_made : List Str := ["shape", "clocks", "spans", "trace", "plain", "kept", "turn", "told"]
theorem sc__law_made : FnScope N__law_made ["shape"] (defScope s__law_made) := ⟨rfl, rfl, rfl, by decide +kernel, rfl, by decide +kernel, by decide +kernel⟩
noncomputable def b__law_made : En → Option Out :=
      (mSeq (mSetO 1 (fun E => ((mBin ixD (mVarT 0) (mC (.int 0))) E).bind seqOf))
      (mSeq (mSetO 2 (fun E => ((mBin ixD (mVarT 0) (mC (.int 1))) E).bind seqOf))
      (mSeq (mSet 3 (fun E => ((mCallXL 3 mi_Trace (mApL (mLen 2 (mCons (mIsL (mVarT 1)) (mCons (mIsL (mVarT 2)) mNil))) (mLen 1 (mCons (mBin ixD (mVarT 0) (mC (.int 2))) mNil)))) E).bind okX))
      (mSeq (mSet 4 (fun E => ((mCallXL 3 mi_Trace (mApC (mCons (mList (fun E => ((mBin ixD (mVarT 0) (mC (.int 0))) E).bind seqOf)) (mCons (mList (fun E => ((mBin ixD (mVarT 0) (mC (.int 1))) E).bind seqOf)) mNil)) [.int 0])) E).bind okX))
      (mSeq (mIfS (mOr (fun E => ((mBin neD (mVarT 1) (mBin ixD (mVarT 0) (mC (.int 0)))) E).bind blOf) (fun E => ((mBin neD (mVarT 2) (mBin ixD (mVarT 0) (mC (.int 1)))) E).bind blOf)) (mRet (mC (.bl false))) mNext)
      (mSeq (mRev 1)
      (mSeq (mApp 1 (mTup (mCons (mC (.str "t")) (mCons (mC (.int 5)) mNil))))
      (mSeq (mRev 2)
      (mSeq (mApp 2 (mTup (mCons (mC (.str "t")) (mCons (mC .non) (mCons (mC (.str "t")) (mCons (mC (.int 5)) (mCons (mC (.int 4)) mNil)))))))
      (mSeq (mSet 5 (mTup (mCons (mUn tupleD (mBin ixD (mVarT 0) (mC (.int 0)))) (mCons (mUn tupleD (mBin ixD (mVarT 0) (mC (.int 1)))) mNil))))
      (mSeq (mIfS (mOr (mNot (fun E => ((mCall 2 m__law_same (mCons (mTup (mCons (mUn (fldD "Trace" "clocks") (mVarT 3)) (mCons (mUn (fldD "Trace" "spans") (mVarT 3)) mNil))) (mCons (mVar 5) mNil))) E).bind truD)) (mNot (fun E => ((mCall 2 m__law_same (mCons (mUn (fldD "Trace" "hop") (mVarT 3)) (mCons (mBin ixD (mVarT 0) (mC (.int 2))) mNil))) E).bind truD))) (mRet (mC (.bl false))) mNext)
      (mSeq (mIfS (mOr (mNot (fun E => ((mCall 2 m__law_same (mCons (mTup (mCons (mUn (fldD "Trace" "clocks") (mVarT 4)) (mCons (mUn (fldD "Trace" "spans") (mVarT 4)) mNil))) (mCons (mVar 5) mNil))) E).bind truD)) (mNot (fun E => ((mCall 2 m__law_same (mCons (mUn (fldD "Trace" "hop") (mVarT 4)) (mCons (mC (.int 0)) mNil))) E).bind truD))) (mRet (mC (.bl false))) mNext)
      (mSeq (mFor (fun E => ((mC (.int 2)) E).bind rg1) (gM 6) (mSeq (mSetO 7 (mCallF 1 mF_trace_facts (mCons (mVar 3) mNil)))
      (mSeq (mIfS (mNot (fun E => ((mCallT 2 m__law_same (mCons (mVarT 7) (mCons (mCall 3 m__law_due (mCons (mBin ixD (mVarT 0) (mC (.int 0))) (mCons (mBin ixD (mVarT 0) (mC (.int 1))) (mCons (mBin ixD (mVarT 0) (mC (.int 2))) mNil)))) mNil))) E).bind truD)) (mRet (mC (.bl false))) mNext)
      (mSeq (mIfS (mNot (fun E => ((mCall 2 m__law_same (mCons (mCall 1 m_trace_facts (mCons (mVar 4) mNil)) (mCons (mCall 3 m__law_due (mCons (mBin ixD (mVarT 0) (mC (.int 0))) (mCons (mBin ixD (mVarT 0) (mC (.int 1))) (mCons (mC (.int 0)) mNil)))) mNil))) E).bind truD)) (mRet (mC (.bl false))) mNext)
      (mSeq (mClear 7)
      (mApp 7 (mTup (mCons (mC (.int 0)) (mCons (mC (.int 1)) (mCons (mC (.int 7)) (mCons (mC (.int 7)) mNil)))))))))))
      (mRet (mC (.bl true))))))))))))))))
noncomputable def m__law_made : List D → Option D := callM 1 8 b__law_made
theorem fn__law_made {f : Addr} {fd : FuncData} (F : FunD K "_law_made" "_law_made" (defArgs s__law_made) (defBody s__law_made) (defScope s__law_made) [] [] f fd) (c__law_same : Cal P w K mg base "_law_same" 10 2 m__law_same) (c__law_due : Cal P w K mg base "_law_due" 3 3 m__law_due) (c_trace_facts : Cal P w K mg base "trace_facts" 2 1 m_trace_facts) (f_trace_facts : CalF P w K mg base "trace_facts" 2 1 mF_trace_facts) (i_Trace : CalIX P w K mg base "Trace" 4 3 2 ["hop"] [.int 0] mi_Trace) (k_Trace : Cls K (He.ga K "Trace")) (n_Trace_spans : NoAttr K (He.ga K "Trace") "spans") (n_Trace_clocks : NoAttr K (He.ga K "Trace") "clocks") (n_Trace_hop : NoAttr K (He.ga K "Trace") "hop") (h_list : mg "list" = none) (h_tuple : mg "tuple" = none) (h_range : mg "range" = none) : FnOk P w K mg base CX0 11 f fd ["shape"] (spD K 1 m__law_made) :=
  fn_mk (N := N__law_made) (m := b__law_made) F sc__law_made rfl (fun cdv A outer s H E hr =>
      (dss_cons (ds_setO 1 sc__law_made.nd (df_list h_list (DE.t (de_ix (dt_var 0) (DE.t de_int)))))
      (dss_cons (ds_setO 2 sc__law_made.nd (df_list h_list (DE.t (de_ix (dt_var 0) (DE.t de_int)))))
      (dss_cons (ds_set 3 sc__law_made.nd (DEX.toE (dex_makeK i_Trace takesN0 (hr.mono (by decide)) (dal_consT (dt_var 1) (dal_consT (dt_var 2) dal_nil)) (dk_cons (de_ix (dt_var 0) (DE.t de_int)) dk_nil))))
      (dss_cons (ds_set 4 sc__law_made.nd (DEX.toE (dex_makeD i_Trace [.int 0] (fun _ => (.cons (.int _) .nil)) takesN0 (hr.mono (by decide)) (dal_consE (DF.toE (df_list h_list (DE.t (de_ix (dt_var 0) (DE.t de_int))))) (dal_consE (DF.toE (df_list h_list (DE.t (de_ix (dt_var 0) (DE.t de_int))))) dal_nil)))))
      (dss_cons (ds_if (DW.toB (dw_or (db_cmp (op_neAll hr) od_ne (dt_var 1) (DE.t (de_ix (dt_var 0) (DE.t de_int)))) (dw_or1 (db_cmp (op_neAll hr) od_ne (dt_var 2) (DE.t (de_ix (dt_var 0) (DE.t de_int))))))) (dss_one (ds_ret (DE.t de_bl))) dss_nil)
      (dss_cons (ds_rev 1)
      (dss_cons (ds_app 1 (de_tup (da_cons de_str (da_cons de_int da_nil))))
      (dss_cons (ds_rev 2)
      (dss_cons (ds_app 2 (de_tup (da_cons de_str (da_cons de_non (da_cons de_str (da_cons de_int (da_cons de_int da_nil)))))))
      (dss_cons (ds_set 5 sc__law_made.nd (de_tup (da_cons (de_tuple h_tuple (DE.t (de_ix (dt_var 0) (DE.t de_int)))) (da_cons (de_tuple h_tuple (DE.t (de_ix (dt_var 0) (DE.t de_int)))) da_nil))))
      (dss_cons (ds_if (DW.toB (dw_or (db_not (db_tru (DE.t (de_call c__law_same (hr.mono (by decide)) (da_cons (de_tup (da_cons (de_fld "Trace" k_Trace n_Trace_clocks (dt_var 3)) (da_cons (de_fld "Trace" k_Trace n_Trace_spans (dt_var 3)) da_nil))) (da_cons (de_var 5) da_nil)))))) (dw_or1 (db_not (db_tru (DE.t (de_call c__law_same (hr.mono (by decide)) (da_cons (de_fld "Trace" k_Trace n_Trace_hop (dt_var 3)) (da_cons (de_ix (dt_var 0) (DE.t de_int)) da_nil))))))))) (dss_one (ds_ret (DE.t de_bl))) dss_nil)
      (dss_cons (ds_if (DW.toB (dw_or (db_not (db_tru (DE.t (de_call c__law_same (hr.mono (by decide)) (da_cons (de_tup (da_cons (de_fld "Trace" k_Trace n_Trace_clocks (dt_var 4)) (da_cons (de_fld "Trace" k_Trace n_Trace_spans (dt_var 4)) da_nil))) (da_cons (de_var 5) da_nil)))))) (dw_or1 (db_not (db_tru (DE.t (de_call c__law_same (hr.mono (by decide)) (da_cons (de_fld "Trace" k_Trace n_Trace_hop (dt_var 4)) (da_cons de_int da_nil))))))))) (dss_one (ds_ret (DE.t de_bl))) dss_nil)
      (dss_cons (ds_for PassesOwn.never rfl (di_range1 h_range (DE.t de_int)) (dg_name 6 sc__law_made.nd) (dss_cons (ds_setO 7 sc__law_made.nd (df_call f_trace_facts (hr.mono (by decide)) (da_cons (de_var 3) da_nil)))
      (dss_cons (ds_if (db_not (db_tru (DE.t (de_callT c__law_same (hr.mono (by decide)) (dat_cons (dt_var 7) (dat_cons (DE.t (de_call c__law_due (hr.mono (by decide)) (da_cons (de_ix (dt_var 0) (DE.t de_int)) (da_cons (de_ix (dt_var 0) (DE.t de_int)) (da_cons (de_ix (dt_var 0) (DE.t de_int)) da_nil))))) dat_nil)))))) (dss_one (ds_ret (DE.t de_bl))) dss_nil)
      (dss_cons (ds_if (db_not (db_tru (DE.t (de_call c__law_same (hr.mono (by decide)) (da_cons (de_call c_trace_facts (hr.mono (by decide)) (da_cons (de_var 4) da_nil)) (da_cons (de_call c__law_due (hr.mono (by decide)) (da_cons (de_ix (dt_var 0) (DE.t de_int)) (da_cons (de_ix (dt_var 0) (DE.t de_int)) (da_cons de_int da_nil)))) da_nil)))))) (dss_one (ds_ret (DE.t de_bl))) dss_nil)
      (dss_cons (ds_clear 7)
      (dss_one (ds_app 7 (de_tup (da_cons de_int (da_cons de_int (da_cons de_int (da_cons de_int da_nil))))))))))))
      (dss_one (ds_ret (DE.t de_bl)))))))))))))))))
theorem bd__law_made (kV doc pm : Value) (an : Option Addr) (cdv ct : Value) (us : List Value) (hl : us.length = ["shape"].length) : bindArgs (PySem.W.fnOf "_law_made" "_law_made" (defArgs s__law_made) (defBody s__law_made) (defScope s__law_made) .none kV doc pm an cdv ct) ⟨us, []⟩ = pure ((["shape"] : List Str).zip us) := match us, hl with | [_], _ => rfl
theorem cal__law_made (F : Stands K mg "_law_made" s__law_made) (c__law_same : Cal P w K mg base "_law_same" 10 2 m__law_same) (c__law_due : Cal P w K mg base "_law_due" 3 3 m__law_due) (c_trace_facts : Cal P w K mg base "trace_facts" 2 1 m_trace_facts) (f_trace_facts : CalF P w K mg base "trace_facts" 2 1 mF_trace_facts) (i_Trace : CalIX P w K mg base "Trace" 4 3 2 ["hop"] [.int 0] mi_Trace) (k_Trace : Cls K (He.ga K "Trace")) (n_Trace_spans : NoAttr K (He.ga K "Trace") "spans") (n_Trace_clocks : NoAttr K (He.ga K "Trace") "clocks") (n_Trace_hop : NoAttr K (He.ga K "Trace") "hop") (h_list : mg "list" = none) (h_tuple : mg "tuple" = none) (h_range : mg "range" = none) : Cal P w K mg base "_law_made" 11 1 m__law_made :=
  cal_of F bd__law_made fun F => fn__law_made F c__law_same c__law_due c_trace_facts f_trace_facts i_Trace k_Trace n_Trace_spans n_Trace_clocks n_Trace_hop h_list h_tuple h_range

abbrev s_law : Stmt := topS 43
abbrev N_law : List Str := ["script", "large", "count", "many", "clocks", "names", "scale", "base", "spans", "leap", "shape", "k"]
theorem sc_law : FnScope N_law ["script"] (defScope s_law) := ⟨rfl, rfl, rfl, by decide +kernel, rfl, by decide +kernel, by decide +kernel⟩
noncomputable def b_law : En → Option Out :=
      (mSeq (mSet 1 (mBin eqD (mCall 4 m__law_draw (mCons (mVar 0) (mCons (mC (.int 0)) (mCons (mC (.int 0)) (mCons (mC (.int 16)) mNil))))) (mC (.int 0))))
      (mSeq (mSet 2 (mBin addD (mC (.int 1)) (mCall 4 m__law_draw (mCons (mVar 0) (mCons (mC (.int 1)) (mCons (mC (.int 0)) (mCons (mC (.int 4)) mNil)))))))
      (mSeq (mSet 3 (mCall 4 m__law_draw (mCons (mVar 0) (mCons (mC (.int 1)) (mCons (mC (.int 1)) (mCons (mC (.int 9)) mNil))))))
      (mSeq (mIfS (fun E => ((mVarT 1) E).bind truD) (mSeq (mSet 2 (mBin ixD (mList (mLst (mCons (mC (.int 6)) (mCons (mBin addD (mC (.int 1)) (mCall 4 m__law_draw (mCons (mVar 0) (mCons (mC (.int 1)) (mCons (mC (.int 0)) (mCons (mC (.int 6)) mNil)))))) mNil)))) (mCall 4 m__law_draw (mCons (mVar 0) (mCons (mC (.int 1)) (mCons (mC (.int 2)) (mCons (mC (.int 2)) mNil)))))))
      (mSet 3 (mBin ixD (mList (mLst (mCons (mC (.int 20)) (mCons (mCall 4 m__law_draw (mCons (mVar 0) (mCons (mC (.int 1)) (mCons (mC (.int 1)) (mCons (mC (.int 21)) mNil))))) mNil)))) (mCall 4 m__law_draw (mCons (mVar 0) (mCons (mC (.int 1)) (mCons (mC (.int 3)) (mCons (mC (.int 2)) mNil)))))))) mNext)
      (mSeq (mSet 4 (mBin ixD (mCall 3 m__law_clocks (mCons (mVar 0) (mCons (mC (.int 2)) (mCons (mVar 2) mNil)))) (mC (.int 0))))
      (mSeq (mSet 5 (mCall 3 m__law_more_names (mCons (mVar 0) (mCons (mBin ixD (mList (mLst (mCons (mC (.int 2)) (mCons (mC (.int 4)) mNil)))) (mBin minD (mC (.int 1)) (mCall 4 m__law_draw (mCons (mVar 0) (mCons (mC (.int 1)) (mCons (mC (.int 4)) (mCons (mC (.int 4)) mNil))))))) (mCons (mVar 3) mNil)))))
      (mSeq (mSet 6 (mBin ixD (mList (mLst (mCons (mC (.int 6)) (mCons (mC (.int 100)) (mCons (mC (.int 500000)) mNil))))) (mCall 4 m__law_draw (mCons (mVar 0) (mCons (mC (.int 25)) (mCons (mC (.int 0)) (mCons (mC (.int 3)) mNil)))))))
      (mSeq (mSet 7 (mBin ixD (mList (mLst (mCons (mC (.int 0)) (mCons (mC (.int 0)) (mCons (mBin (intOpC powOk fun i j => .int (i ^ j.toNat)) (mC (.int 10)) (mC (.int 10))) (mCons (mUn negD (mBin (intOpC powOk fun i j => .int (i ^ j.toNat)) (mC (.int 10)) (mC (.int 10)))) mNil)))))) (mCall 4 m__law_draw (mCons (mVar 0) (mCons (mC (.int 25)) (mCons (mC (.int 1)) (mCons (mC (.int 4)) mNil)))))))
      (mSeq (mSet 8 (mCall 6 m__law_spans (mCons (mVar 0) (mCons (mC (.int 5)) (mCons (mVar 5) (mCons (mVar 4) (mCons (mVar 6) (mCons (mVar 7) mNil))))))))
      (mSeq (mSet 9 (mBin ixD (mList (mLst (mCons (mC (.int 0)) (mCons (mCall 4 m__law_draw (mCons (mVar 0) (mCons (mC (.int 25)) (mCons (mC (.int 3)) (mCons (mC (.int 6)) mNil))))) (mCons (mCall 4 m__law_draw (mCons (mVar 0) (mCons (mC (.int 25)) (mCons (mC (.int 3)) (mCons (mC (.int 1000001)) mNil))))) (mCons (mC (.int 1000000)) mNil)))))) (mCall 4 m__law_draw (mCons (mVar 0) (mCons (mC (.int 25)) (mCons (mC (.int 2)) (mCons (mC (.int 4)) mNil)))))))
      (mSeq (mSet 10 (mList (mLst (mCons (mVar 4) (mCons (mVar 8) (mCons (mVar 9) mNil))))))
      (mSeq (mIfS (mNot (fun E => ((mCall 1 m__law_made (mCons (mVar 10) mNil)) E).bind truD)) (mRet (mC (.bl false))) mNext)
      (mSeq (mFor (fun E => ((mBin (intOpC mulOk fun i j => .int (i * j)) (mBin ixD (mList (mLst (mCons (mC (.int 0)) (mCons (mC (.int 1)) (mCons (mC (.int 1)) (mCons (mC (.int 2)) mNil)))))) (mCall 4 m__law_draw (mCons (mVar 0) (mCons (mC (.int 26)) (mCons (mC (.int 0)) (mCons (mC (.int 4)) mNil)))))) (mUn intD (mBin (intOp fun i j => .bl (decide (i < j))) (mVarT 3) (mC (.int 17))))) E).bind rg1) (gM 11) (mSet 10 (mCall 3 m__law_spoilt (mCons (mVar 0) (mCons (mBin addD (mC (.int 27)) (mVarT 11)) (mCons (mVar 10) mNil))))))
      (mSeq (mIfS (fun E => ((mCall 1 m__law_good (mCons (mVar 10) mNil)) E).bind truD) (mRet (mCall 1 m__law_made (mCons (mVar 10) mNil))) mNext)
      (mRet (mCall 1 m__law_refused (mCons (mVar 10) mNil)))))))))))))))))
noncomputable def m_law : List D → Option D := callM 1 12 b_law
theorem fn_law {f : Addr} {fd : FuncData} (F : FunD K "law" "law" (defArgs s_law) (defBody s_law) (defScope s_law) [] [] f fd) (c__law_draw : Cal P w K mg base "_law_draw" 2 4 m__law_draw) (c__law_clocks : Cal P w K mg base "_law_clocks" 4 3 m__law_clocks) (c__law_more_names : Cal P w K mg base "_law_more_names" 4 3 m__law_more_names) (c__law_spans : Cal P w K mg base "_law_spans" 3 6 m__law_spans) (c__law_made : Cal P w K mg base "_law_made" 11 1 m__law_made) (c__law_spoilt : Cal P w K mg base "_law_spoilt" 5 3 m__law_spoilt) (c__law_good : Cal P w K mg base "_law_good" 3 1 m__law_good) (c__law_refused : Cal P w K mg base "_law_refused" 6 1 m__law_refused) (h_min : mg "min" = none) (h_int : mg "int" = none) (h_range : mg "range" = none) : FnOk P w K mg base CX0 12 f fd ["script"] (spD K 1 m_law) :=
  fn_mk (N := N_law) (m := b_law) F sc_law rfl (fun cdv A outer s H E hr =>
      (dss_cons (ds_set 1 sc_law.nd (de_cmp (op_eqAll hr) od_eq (DE.t (de_call c__law_draw (hr.mono (by decide)) (da_cons (de_var 0) (da_cons de_int (da_cons de_int (da_cons de_int da_nil)))))) (DE.t de_int)))
      (dss_cons (ds_set 2 sc_law.nd (de_add (DE.t de_int) (DE.t (de_call c__law_draw (hr.mono (by decide)) (da_cons (de_var 0) (da_cons de_int (da_cons de_int (da_cons de_int da_nil))))))))
      (dss_cons (ds_set 3 sc_law.nd (de_call c__law_draw (hr.mono (by decide)) (da_cons (de_var 0) (da_cons de_int (da_cons de_int (da_cons de_int da_nil))))))
      (dss_cons (ds_if (db_tru (dt_var 1)) (dss_cons (ds_set 2 sc_law.nd (de_ix (DF.t (df_lst (da_cons de_int (da_cons (de_add (DE.t de_int) (DE.t (de_call c__law_draw (hr.mono (by decide)) (da_cons (de_var 0) (da_cons de_int (da_cons de_int (da_cons de_int da_nil))))))) da_nil)))) (DE.t (de_call c__law_draw (hr.mono (by decide)) (da_cons (de_var 0) (da_cons de_int (da_cons de_int (da_cons de_int da_nil))))))))
      (dss_one (ds_set 3 sc_law.nd (de_ix (DF.t (df_lst (da_cons de_int (da_cons (de_call c__law_draw (hr.mono (by decide)) (da_cons (de_var 0) (da_cons de_int (da_cons de_int (da_cons de_int da_nil))))) da_nil)))) (DE.t (de_call c__law_draw (hr.mono (by decide)) (da_cons (de_var 0) (da_cons de_int (da_cons de_int (da_cons de_int da_nil)))))))))) dss_nil)
      (dss_cons (ds_set 4 sc_law.nd (de_ix (DE.t (de_call c__law_clocks (hr.mono (by decide)) (da_cons (de_var 0) (da_cons de_int (da_cons (de_var 2) da_nil))))) (DE.t de_int)))
      (dss_cons (ds_set 5 sc_law.nd (de_call c__law_more_names (hr.mono (by decide)) (da_cons (de_var 0) (da_cons (de_ix (DF.t (df_lst (da_cons de_int (da_cons de_int da_nil)))) (DE.t (de_min2 rfl h_min (DE.t de_int) (DE.t (de_call c__law_draw (hr.mono (by decide)) (da_cons (de_var 0) (da_cons de_int (da_cons de_int (da_cons de_int da_nil))))))))) (da_cons (de_var 3) da_nil)))))
      (dss_cons (ds_set 6 sc_law.nd (de_ix (DF.t (df_lst (da_cons de_int (da_cons de_int (da_cons de_int da_nil))))) (DE.t (de_call c__law_draw (hr.mono (by decide)) (da_cons (de_var 0) (da_cons de_int (da_cons de_int (da_cons de_int da_nil))))))))
      (dss_cons (ds_set 7 sc_law.nd (de_ix (DF.t (df_lst (da_cons de_int (da_cons de_int (da_cons (de_pow (DE.t de_int) (DE.t de_int)) (da_cons (de_neg (DE.t (de_pow (DE.t de_int) (DE.t de_int)))) da_nil)))))) (DE.t (de_call c__law_draw (hr.mono (by decide)) (da_cons (de_var 0) (da_cons de_int (da_cons de_int (da_cons de_int da_nil))))))))
      (dss_cons (ds_set 8 sc_law.nd (de_call c__law_spans (hr.mono (by decide)) (da_cons (de_var 0) (da_cons de_int (da_cons (de_var 5) (da_cons (de_var 4) (da_cons (de_var 6) (da_cons (de_var 7) da_nil))))))))
      (dss_cons (ds_set 9 sc_law.nd (de_ix (DF.t (df_lst (da_cons de_int (da_cons (de_call c__law_draw (hr.mono (by decide)) (da_cons (de_var 0) (da_cons de_int (da_cons de_int (da_cons de_int da_nil))))) (da_cons (de_call c__law_draw (hr.mono (by decide)) (da_cons (de_var 0) (da_cons de_int (da_cons de_int (da_cons de_int da_nil))))) (da_cons de_int da_nil)))))) (DE.t (de_call c__law_draw (hr.mono (by decide)) (da_cons (de_var 0) (da_cons de_int (da_cons de_int (da_cons de_int da_nil))))))))
      (dss_cons (ds_set 10 sc_law.nd (DF.toE (df_lst (da_cons (de_var 4) (da_cons (de_var 8) (da_cons (de_var 9) da_nil))))))
      (dss_cons (ds_if (db_not (db_tru (DE.t (de_call c__law_made (hr.mono (by decide)) (da_cons (de_var 10) da_nil))))) (dss_one (ds_ret (DE.t de_bl))) dss_nil)
      (dss_cons (ds_for PassesOwn.never rfl (di_range1 h_range (DE.t (de_mul (DE.t (de_ix (DF.t (df_lst (da_cons de_int (da_cons de_int (da_cons de_int (da_cons de_int da_nil)))))) (DE.t (de_call c__law_draw (hr.mono (by decide)) (da_cons (de_var 0) (da_cons de_int (da_cons de_int (da_cons de_int da_nil)))))))) (DE.t (de_int1 h_int (DE.t (de_cmp op_lt od_lt (dt_var 3) (DE.t de_int)))))))) (dg_name 11 sc_law.nd) (dss_one (ds_set 10 sc_law.nd (de_call c__law_spoilt (hr.mono (by decide)) (da_cons (de_var 0) (da_cons (de_add (DE.t de_int) (dt_var 11)) (da_cons (de_var 10) da_nil)))))))
      (dss_cons (ds_if (db_tru (DE.t (de_call c__law_good (hr.mono (by decide)) (da_cons (de_var 10) da_nil)))) (dss_one (ds_ret (DE.t (de_call c__law_made (hr.mono (by decide)) (da_cons (de_var 10) da_nil))))) dss_nil)
      (dss_one (ds_ret (DE.t (de_call c__law_refused (hr.mono (by decide)) (da_cons (de_var 10) da_nil))))))))))))))))))))
theorem bd_law (kV doc pm : Value) (an : Option Addr) (cdv ct : Value) (us : List Value) (hl : us.length = ["script"].length) : bindArgs (PySem.W.fnOf "law" "law" (defArgs s_law) (defBody s_law) (defScope s_law) .none kV doc pm an cdv ct) ⟨us, []⟩ = pure ((["script"] : List Str).zip us) := match us, hl with | [_], _ => rfl
theorem cal_law (F : Stands K mg "law" s_law) (c__law_draw : Cal P w K mg base "_law_draw" 2 4 m__law_draw) (c__law_clocks : Cal P w K mg base "_law_clocks" 4 3 m__law_clocks) (c__law_more_names : Cal P w K mg base "_law_more_names" 4 3 m__law_more_names) (c__law_spans : Cal P w K mg base "_law_spans" 3 6 m__law_spans) (c__law_made : Cal P w K mg base "_law_made" 11 1 m__law_made) (c__law_spoilt : Cal P w K mg base "_law_spoilt" 5 3 m__law_spoilt) (c__law_good : Cal P w K mg base "_law_good" 3 1 m__law_good) (c__law_refused : Cal P w K mg base "_law_refused" 6 1 m__law_refused) (h_min : mg "min" = none) (h_int : mg "int" = none) (h_range : mg "range" = none) : Cal P w K mg base "law" 12 1 m_law :=
  cal_of F bd_law fun F => fn_law F c__law_draw c__law_clocks c__law_more_names c__law_spans c__law_made c__law_spoilt c__law_good c__law_refused h_min h_int h_range

end
end Sx


set_option Elab.async false
set_option linter.all false
set_option maxRecDepth 100000
set_option maxHeartbeats 2000000
namespace Sx
open PySem L2
theorem cell_ok (ns : List Int) (at_ : Int) (h : 0 ≤ at_) : ∃ r : Int, m__law_cell [.scr ns, .int at_] = some (.int r) := by
  unfold m__law_cell callM b__law_cell
  by_cases hl : at_ < (ns.length : Int)
  · obtain ⟨x, hx, _⟩ := atI_nat' h hl
    exact ⟨x, by simp [hl, hx]⟩
  · simp [hl, mulOk_l]
    generalize hmb : mSet 2 _ = mb
    obtain ⟨E', h1, h2⟩ := runFor_inv (mg := gM 3) (mb := mb) (fun _ E => ∃ s r, E = [.fz (.scr ns), .fz (.int at_), .fz (.int r), s]) (ns.map .int) 0 [.fz (.scr ns), .fz (.int at_), .fz (.int (11 + 101 * at_)), .un] ⟨_, _, rfl⟩ fun j d E hj hI => by
      obtain ⟨s, r, rfl⟩ := hI
      obtain ⟨c, rfl, _⟩ := ints_at hj
      refine ⟨_, _, rfl, .inl ?_, ⟨.fz (.int c), (r * 31 + c) % 1000000007, rfl⟩⟩
      subst hmb
      simp [mulOk_r]
    obtain ⟨s, r, rfl⟩ := h2
    exact ⟨r, by simp [h1]⟩
theorem draw_ok (ns : List Int) {at_ k size : Int} (h : 0 ≤ at_) (hk : 0 ≤ k ∧ k ≤ 90000) (hs : 0 < size) : ∃ r : Int, m__law_draw [.scr ns, .int at_, .int k, .int size] = some (.int r) ∧ 0 ≤ r ∧ r < size := by
  obtain ⟨c, hc⟩ := cell_ok ns at_ h
  have last : ∀ x : Int, 0 ≤ x % size ∧ x % size < size := fun x => ⟨Int.emod_nonneg _ (by omega), Int.emod_lt_of_pos _ hs⟩
  have m1 : ∀ x : Int, -18446744073709551616 < x % 2147483647 ∧ x % 2147483647 < 18446744073709551616 := fun x => by omega
  have m2 : ∀ x : Int, -18446744073709551616 < x % 2147483629 ∧ x % 2147483629 < 18446744073709551616 := fun x => by omega
  unfold m__law_draw callM b__law_draw
  by_cases hb : (1000000000000000000 : Int) ≤ c
  · simp [hc, hb, powOk_c, mulOk_l, mulOk_r, divOk_c, hs, m1, m2, hk, show -100000 ≤ k by omega, show k ≤ 100000 by omega]
    generalize hmb : mSet 6 _ = mb
    obtain ⟨E', h1, h2⟩ := runFor_inv (mg := gM 7) (mb := mb) (fun _ E => ∃ s r, E = [.fz (.scr ns), .fz (.int at_), .fz (.int k), .fz (.int size), .fz (.int c), .un, .fz (.int r), s]) (rangeD 0 k.toNat) 0 [.fz (.scr ns), .fz (.int at_), .fz (.int k), .fz (.int size), .fz (.int c), .un, .fz (.int c), .un] ⟨_, _, rfl⟩ fun j d E hj hI => by
      obtain ⟨s, r, rfl⟩ := hI
      obtain ⟨rfl, _⟩ := range_at hj
      refine ⟨_, _, rfl, .inl ?_, ⟨.fz (.int (0 + j)), r / 1000003, rfl⟩⟩
      subst hmb
      simp [divOk_c]
    obtain ⟨s, r, rfl⟩ := h2
    by_cases hr : 0 < r
    · exact ⟨r % 1000003 % size, by simp [h1, hr, hs], last _⟩
    · refine ⟨?x % size, ?h, last ?x⟩
      case h =>
        simp [h1, hr, hs, mulOk_l, mulOk_r, divOk_c, m1, m2]
        rfl
  · refine ⟨?x % size, ?h, last ?x⟩
    case h => simp [hc, hb, powOk_c, mulOk_l, mulOk_r, divOk_c, hs, m1, m2]
theorem rangeD_eq (lo : Int) (n : Nat) : rangeD lo n = (List.range n).map fun (i : Nat) => D.int (lo + (i : Int)) := rfl
end Sx

set_option Elab.async false
set_option linter.all false
set_option maxRecDepth 100000
set_option maxHeartbeats 2000000
namespace Sx
open PySem L2
/-! ### texts -/
abbrev cl (z : Str) : List Nat := z.cps.toList
theorem len_cl (z : Str) : z.length = (cl z).length := by
  unfold Str.length
  rw [Array.length_toList]
theorem cl_app (a b : Str) : cl (a ++ b) = cl a ++ cl b := by
  show (a.cps ++ b.cps).toList = _
  rw [Array.toList_append]
theorem cl_one (c : Nat) : cl ⟨#[c]⟩ = [c] := rfl
theorem cl_inj {a b : Str} (h : cl a = cl b) : a = b := by
  obtain ⟨⟨x⟩⟩ := a
  obtain ⟨⟨y⟩⟩ := b
  have h : x = y := h
  rw [h]
abbrev sLet : Str := "abcdefghijklmnopqrstuvwxyz"
abbrev sDig : Str := "0123456789"
abbrev sAn : Str := "abcdefghijklmnopqrstuvwxyz0123456789"
def resv : List Str := ["all", "and", "or", "not", "some", "every", "row", "first", "from", "to", "at", "in"]
def isLet (c : Nat) : Bool := decide (97 ≤ c ∧ c ≤ 122)
def isDig (c : Nat) : Bool := decide (48 ≤ c ∧ c ≤ 57)
def isAn (c : Nat) : Bool := isLet c || isDig c
theorem cl_let : cl sLet = [97, 98, 99, 100, 101, 102, 103, 104, 105, 106, 107, 108, 109, 110, 111, 112, 113, 114, 115, 116, 117, 118, 119, 120, 121, 122] := by decide +kernel
theorem cl_dig : cl sDig = [48, 49, 50, 51, 52, 53, 54, 55, 56, 57] := by decide +kernel
theorem cl_an : cl sAn = cl sLet ++ cl sDig := by decide +kernel
theorem mem_let (c : Nat) : decide (c ∈ cl sLet) = isLet c := by
  rw [cl_let]
  unfold isLet
  rw [decide_eq_decide]
  simp
  omega
theorem mem_dig (c : Nat) : decide (c ∈ cl sDig) = isDig c := by
  rw [cl_dig]
  unfold isDig
  rw [decide_eq_decide]
  simp
  omega
theorem mem_an (c : Nat) : decide (c ∈ cl sAn) = isAn c := by
  have h1 := mem_let c
  have h2 := mem_dig c
  unfold isAn
  rw [cl_an, ← h1, ← h2]
  simp [List.mem_append]
theorem mem_ld (c : Nat) : decide (c ∈ cl (sLet ++ sDig)) = isAn c := by
  rw [cl_app, ← cl_an]
  exact mem_an c
theorem len_ld : sLet.length + sDig.length ≤ 100000 := by decide +kernel
/-- what both sides take for a name -/
def isName (z : Str) : Bool := decide (1 ≤ (cl z).length ∧ (cl z).length ≤ 12) && (!resv.contains z && ((cl z).all isAn && (match cl z with
  | c :: _ => isLet c
  | [] => false)))
def okT (z : Str) : Prop := (cl z).length ≤ 100 ∧ ∀ c ∈ cl z, c < 1000
theorem runFor_all {α : Type} {mg : En → D → Option En} {mb : En → Option Out} (f : α → D) (p : α → Bool) (d : D) (I : En → Prop) : ∀ (xs : List α) (E : En), I E →
    (∀ x ∈ xs, ∀ E, I E → ∃ E1, mg E (f x) = some E1 ∧ (p x = true → ∃ E2, mb E1 = some (.nx E2) ∧ I E2) ∧ (p x = false → mb E1 = some (.rt d))) →
    (xs.all p = true → ∃ E', runFor mg mb (xs.map f) E = some (.nx E') ∧ I E') ∧ (xs.all p = false → runFor mg mb (xs.map f) E = some (.rt d))
  | [], E, h, _ => ⟨fun _ => ⟨E, rfl, h⟩, fun z => by simp at z⟩
  | x :: xs, E, h, hs => by
    obtain ⟨E1, h1, h2, h3⟩ := hs x (List.mem_cons_self ..) E h
    rw [List.map_cons, List.all_cons]
    unfold runFor
    rw [h1]
    cases hp : p x with
    | true =>
      obtain ⟨E2, h4, h5⟩ := h2 hp
      have ih := runFor_all (mg := mg) (mb := mb) f p d I xs E2 h5 fun y hy => hs y (List.mem_cons_of_mem _ hy)
      rw [Bool.true_and]
      show (_ → ∃ E', ((mb E1).bind _) = _ ∧ _) ∧ (_ → (mb E1).bind _ = _)
      rw [h4]
      exact ih
    | false =>
      rw [Bool.false_and]
      refine ⟨fun z => (by cases z), fun _ => ?_⟩
      show (mb E1).bind _ = _
      rw [h3 hp]
      rfl
theorem inS_one (c : Nat) (t : Str) : inSD (.str ⟨#[c]⟩) (.str t) = some (.bl (decide (c ∈ cl t))) := by
  simp
theorem consists_ok (z t : Str) : m__consists_of [.str z, .str t] = some (.bl ((cl z).all fun c => decide (c ∈ cl t))) := by
  unfold m__consists_of callM b__consists_of
  generalize hmb : mIfS _ _ _ = mb
  have key := runFor_all (mg := gM 2) (mb := mb) (fun c => D.str ⟨#[c]⟩) (fun c => decide (c ∈ cl t)) (.bl false) (fun E => ∃ s, E = [.fz (.str z), .fz (.str t), s]) (cl z) [.fz (.str z), .fz (.str t), .un] ⟨_, rfl⟩ fun c _ E hI => by
    obtain ⟨s, rfl⟩ := hI
    have e := inS_one c t
    refine ⟨_, rfl, fun h => ⟨[.fz (.str z), .fz (.str t), .fz (.str ⟨#[c]⟩)], ?_, _, rfl⟩, fun h => ?_⟩
    · subst hmb
      rw [h] at e
      simp [-inSD, e]
    · subst hmb
      rw [h] at e
      simp [-inSD, e]
  cases h : (cl z).all fun c => decide (c ∈ cl t) with
  | true =>
    obtain ⟨E', k1, s, rfl⟩ := key.1 h
    simp [signsD, k1]
  | false =>
    have k1 := key.2 h
    simp [signsD, k1]
theorem head_ix {z : Str} {c : Nat} {cs : List Nat} (h : cl z = c :: cs) (hl : z.length ≤ 100000) : ixD (.str z) (.int 0) = some (.str ⟨#[c]⟩) := by
  have h' : z.cps.toList = c :: cs := h
  simp [hl, h', atI, ixN]
theorem chainLen {z : Str} (hl : z.length ≤ 100000) : True := trivial
theorem inS_hd {z : Str} {c : Nat} {cs : List Nat} (h : cl z = c :: cs) (hl : z.length ≤ 100000) (t : Str) (b : Bool) (hb : decide (c ∈ cl t) = b) : mBin inDA (mBin ixD (mC (.str z)) (mC (.int 0))) (mC (.str t)) [] = some (.bl b) := by
  show (((some (D.str z)).bind fun x => (some (D.int 0)).bind fun y => ixD x y).bind fun x => (some (D.str t)).bind fun y => inDA x y) = _
  show ((ixD (.str z) (.int 0)).bind fun x => inDA x (.str t)) = _
  rw [head_ix h hl]
  show inSD (.str ⟨#[c]⟩) (.str t) = _
  rw [inS_one, hb]
theorem is_name_ok {z : Str} (hl : z.length ≤ 100000) : m_is_name [.str z] = some (.bl (isName z)) := by
  have hl' := len_cl z
  have e1 : (inG ["all", "and", "or", "not", "some", "every", "row", "first", "from", "to", "at", "in"] (.str z)) = some (resv.contains z) := rfl
  have c1 := consists_ok z (sLet ++ sDig)
  have e4 : addD (.str sLet) (.str sDig) = some (.str (sLet ++ sDig)) := by
    show (if sLet.length + sDig.length ≤ 100000 then some (D.str (sLet ++ sDig)) else none) = _
    rw [if_pos len_ld]
  have key : ∀ (b1 b2 b3 b4 : Bool), b1 = decide (1 ≤ z.length ∧ z.length ≤ 12) → b2 = resv.contains z → (b1 = true → ixD (.str z) (.int 0) ≠ none ∧ ∀ d, ixD (.str z) (.int 0) = some d → inDA d (.str sLet) = some (.bl b3)) → b4 = ((cl z).all fun c => decide (c ∈ cl (sLet ++ sDig))) →
      m_is_name [.str z] = some (.bl (b1 && (!b2 && (b3 && b4)))) := by
    intro b1 b2 b3 b4 g1 g2 g3 g4
    rw [← g2] at e1
    rw [← g4] at c1
    unfold m_is_name callM b_is_name
    have hlen : lenD (.str z) = some (.int z.length) := by
      show (if z.length ≤ 100000 then some (D.int z.length) else none) = _
      rw [if_pos hl]
    cases b1 with
    | false =>
      have : ¬ (1 ≤ z.length ∧ z.length ≤ 12) := of_decide_eq_false g1.symm
      by_cases q : 1 ≤ z.length
      · have q2 : ¬ z.length ≤ 12 := fun w => this ⟨q, w⟩
        have q3 : (1 : Int) ≤ (z.length : Int) := by omega
        have q4 : ¬ (z.length : Int) ≤ 12 := by omega
        simp [-lenD, hlen, q3, q4]
      · have q3 : ¬ (1 : Int) ≤ (z.length : Int) := by omega
        simp [-lenD, hlen, q3]
    | true =>
      have h12 := of_decide_eq_true g1.symm
      have q3 : (1 : Int) ≤ (z.length : Int) := by omega
      have q4 : (z.length : Int) ≤ 12 := by omega
      obtain ⟨n0, g5⟩ := g3 rfl
      obtain ⟨d, hd⟩ := Option.ne_none_iff_exists'.mp n0
      have g6 := g5 d hd
      cases b2 with
      | true => simp [-lenD, -inG, hlen, q3, q4, e1]
      | false =>
        cases b3 with
        | false => simp [-lenD, -inG, -ixD, -inDA, hlen, q3, q4, e1, hd, g6]
        | true => simp [-lenD, -inG, -ixD, -inDA, -addD, hlen, q3, q4, e1, hd, g6, e4, c1]
  cases hz : cl z with
  | nil =>
    rw [hz] at hl'
    have h0 : z.length = 0 := hl'
    rw [key false (resv.contains z) false _ (by rw [h0]; rfl) rfl (fun w => by cases w) rfl]
    simp [isName, hz]
  | cons c cs =>
    have hix := head_ix hz hl
    have e3 := inS_one c sLet
    rw [mem_let] at e3
    rw [key _ (resv.contains z) (isLet c) _ rfl rfl (fun _ => ⟨(by rw [hix]; simp), fun d hd => by
      rw [hix] at hd
      cases hd
      exact e3⟩) rfl]
    congr 2
    unfold isName
    rw [hl', hz]
    simp only [mem_ld]
    cases isLet c <;> simp
end Sx

set_option Elab.async false
set_option linter.all false
set_option maxRecDepth 100000
set_option maxHeartbeats 2000000
namespace Sx
open PySem L2
theorem ixT {z : Str} {i : Nat} {c : Nat} (hl : z.length ≤ 100000) (h : (cl z)[i]? = some c) : ixD (.str z) (.int (i : Int)) = some (.str ⟨#[c]⟩) := by
  show (if z.length ≤ 100000 then (atI (cl z) (i : Int)).map (fun c => D.str ⟨#[c]⟩) else none) = _
  rw [if_pos hl, atI_nat, h]
  rfl
theorem lenD_s {z : Str} (hl : z.length ≤ 100000) : lenD (.str z) = some (.int z.length) := by
  show (if z.length ≤ 100000 then some (D.int z.length) else none) = _
  rw [if_pos hl]
theorem all_range (p : Nat → Bool) : ∀ (xs : List Nat), (List.range xs.length).all (fun i => p (xs.getD i 0)) = xs.all p
  | [] => rfl
  | x :: xs => by
    rw [List.length_cons, List.range_succ_eq_map, List.all_cons, List.all_map, List.all_cons, ← all_range p xs]
    rfl
theorem law_is_name_ok {z : Str} (hl : z.length ≤ 100000) : m__law_is_name [.str z] = some (.bl (isName z)) := by
  have hl' := len_cl z
  have hlen := lenD_s hl
  unfold m__law_is_name callM b__law_is_name
  generalize hmb : (mIfS (fun E => ((mBin notInDA (mBin ixD (mVarT 0) (mVarT 1)) (mC (.str "abcdefghijklmnopqrstuvwxyz0123456789"))) E).bind blOf) (mRet (mC (.bl false))) mNext) = mb
  by_cases h12 : 1 ≤ z.length ∧ z.length ≤ 12
  · have q3 : (1 : Int) ≤ (z.length : Int) := by omega
    have q4 : (z.length : Int) ≤ 12 := by omega
    have q5 : (z.length : Int) ≤ 100000 := by omega
    have q6 : (-100000 : Int) ≤ (z.length : Int) := by omega
    obtain ⟨c, cs, hz⟩ : ∃ c cs, cl z = c :: cs := by
      cases hz : cl z with
      | nil => rw [hz] at hl'; simp at hl'; omega
      | cons c cs => exact ⟨c, cs, rfl⟩
    have hix := head_ix hz hl
    have e3 : inDA (.str ⟨#[c]⟩) (.str sDig) = some (.bl (isDig c)) := by
      show inSD (.str ⟨#[c]⟩) (.str sDig) = _
      rw [inS_one, mem_dig]
    have key := runFor_all (mg := gM 1) (mb := mb) (fun (i : Nat) => D.int (0 + (i : Int))) (fun i => isAn ((cl z).getD i 0)) (.bl false) (fun E => ∃ s, E = [.fz (.str z), s]) (List.range (cl z).length) [.fz (.str z), .un] ⟨_, rfl⟩ fun i hi E hI => by
      obtain ⟨s, rfl⟩ := hI
      have hi' := List.mem_range.mp hi
      have hc : (cl z)[i]? = some ((cl z).getD i 0) := by
        rw [List.getD_eq_getElem?_getD, List.getElem?_eq_getElem hi']
        rfl
      have g1 := ixT hl hc
      generalize (cl z).getD i 0 = x at *
      have g2 : inDA (.str ⟨#[x]⟩) (.str sAn) = some (.bl (isAn x)) := by
        show inSD (.str ⟨#[x]⟩) (.str sAn) = _
        rw [inS_one, mem_an]
      rw [show (0 + (i : Int)) = (i : Int) by omega]
      refine ⟨_, rfl, fun h => ⟨[.fz (.str z), .fz (.int i)], ?_, _, rfl⟩, fun h => ?_⟩
      · subst hmb
        rw [h] at g2
        simp [-inDA, -ixD, g1, g2]
      · subst hmb
        rw [h] at g2
        simp [-inDA, -ixD, g1, g2]
    rw [all_range isAn (cl z), ← rangeD_eq, ← hl'] at key
    have e5 : notInDA (.str z) (.lst [.str "all", .str "and", .str "or", .str "not", .str "some", .str "every", .str "row", .str "first", .str "from", .str "to", .str "at", .str "in"]) = some (.bl (!resv.contains z)) := rfl
    cases hd : isDig c with
    | true =>
      rw [hd] at e3
      simp [-lenD, -ixD, -inDA, hlen, q3, q4, hix, e3]
      unfold isName
      rw [hz]
      have : isLet c = false := by
        unfold isLet isDig at *
        have := of_decide_eq_true hd
        exact decide_eq_false (by omega)
      simp [this]
    | false =>
      rw [hd] at e3
      cases ha : (cl z).all isAn with
      | false =>
        have k1 := key.2 ha
        simp [-lenD, -ixD, -inDA, hlen, q3, q4, q5, q6, hix, e3, k1]
        unfold isName
        rw [ha]
        simp
      | true =>
        obtain ⟨E', k1, s, rfl⟩ := key.1 ha
        simp [-lenD, -ixD, -inDA, -notInDA, hlen, q3, q4, q5, q6, hix, e3, k1, e5]
        have h12' : 1 ≤ (cl z).length ∧ (cl z).length ≤ 12 := by rw [← hl']; exact h12
        have ac : isAn c = true := by
          rw [hz, List.all_cons, Bool.and_eq_true] at ha
          exact ha.1
        have lc : isLet c = true := by
          unfold isAn at ac
          rw [hd, Bool.or_false] at ac
          exact ac
        unfold isName
        rw [ha, hz]
        rw [hz] at h12'
        simp only [lc]
        simp [h12']
        simp at h12'
        omega
  · have e0 : isName z = false := by
      unfold isName
      rw [← hl', decide_eq_false h12]
      rfl
    rw [e0]
    by_cases q : 1 ≤ z.length
    · have q2 : ¬ z.length ≤ 12 := fun w => h12 ⟨q, w⟩
      have q3 : (1 : Int) ≤ (z.length : Int) := by omega
      have q4 : ¬ (z.length : Int) ≤ 12 := by omega
      simp [-lenD, hlen, q3, q4]
    · have q3 : ¬ (1 : Int) ≤ (z.length : Int) := by omega
      simp [-lenD, hlen, q3]
end Sx

set_option Elab.async false
set_option linter.all false
set_option maxRecDepth 100000
set_option maxHeartbeats 2000000
namespace Sx
open PySem L2
/-! ### loops with a state -/
def foldO {S α : Type} (st : S → α → Option S) : S → List α → Option S
  | s, [] => some s
  | s, x :: xs => (st s x).bind fun s' => foldO st s' xs
theorem runFor_st {S α : Type} {mg : En → D → Option En} {mb : En → Option Out} (st : S → α → Option S) (f : α → D) (d : D) (I : Nat → S → En → Prop) : ∀ (xs : List α) (i : Nat) (s : S) (E : En), I i s E →
    (∀ (j : Nat) (x : α), xs[j]? = some x → ∀ s E, I (i + j) s E → ∃ E1, mg E (f x) = some E1 ∧ (∀ s', st s x = some s' → ∃ E2, mb E1 = some (.nx E2) ∧ I (i + j + 1) s' E2) ∧ (st s x = none → mb E1 = some (.rt d))) →
    (∀ s', foldO st s xs = some s' → ∃ E', runFor mg mb (xs.map f) E = some (.nx E') ∧ I (i + xs.length) s' E') ∧ (foldO st s xs = none → runFor mg mb (xs.map f) E = some (.rt d))
  | [], i, s, E, h, _ => ⟨fun s' e => ⟨E, rfl, by cases e; exact h⟩, fun z => by cases z⟩
  | x :: xs, i, s, E, h, hs => by
    obtain ⟨E1, h1, h2, h3⟩ := hs 0 x rfl s E h
    have red : runFor mg mb ((x :: xs).map f) E = (mb E1).bind fun o => match o with
        | .nx E2 => runFor mg mb (xs.map f) E2
        | .ct E2 => runFor mg mb (xs.map f) E2
        | .bk E2 => some (.nx E2)
        | .rt r => some (.rt r)
        | .rf r => some (.rf r)
        | .tf d r => some (.tf d r) := by
      rw [List.map_cons]
      show (mg E (f x)).bind _ = _
      rw [h1]
      rfl
    rw [red]
    have fe : foldO st s (x :: xs) = (st s x).bind fun s' => foldO st s' xs := rfl
    rw [fe]
    cases hp : st s x with
    | some s1 =>
      obtain ⟨E2, h4, h5⟩ := h2 s1 hp
      rw [h4]
      have ih := runFor_st (mg := mg) (mb := mb) st f d I xs (i + 1) s1 E2 h5 fun j y hy s E hI => by
        have e : i + 1 + j = i + (j + 1) := by omega
        rw [e] at hI ⊢
        exact hs (j + 1) y (by simpa using hy) s E hI
      rw [show i + (x :: xs).length = i + 1 + xs.length by rw [List.length_cons]; omega]
      exact ih
    | none =>
      rw [h3 hp]
      exact ⟨fun s' e => (by cases e), fun _ => rfl⟩
theorem runForX_st {S α : Type} {mg : En → D → Option En} {mb : En → Option OutX} (st : S → α → Option S) (f : α → D) (c : Str) (I : Nat → S → En → Prop) : ∀ (xs : List α) (i : Nat) (s : S) (E : En), I i s E →
    (∀ (j : Nat) (x : α), xs[j]? = some x → ∀ s E, I (i + j) s E → ∃ E1, mg E (f x) = some E1 ∧ (∀ s', st s x = some s' → ∃ E2, mb E1 = some (.o (.nx E2)) ∧ I (i + j + 1) s' E2) ∧ (st s x = none → ∃ E2, mb E1 = some (.ex c E2))) →
    (∀ s', foldO st s xs = some s' → ∃ E', runForX mg mb (xs.map f) E = some (.o (.nx E')) ∧ I (i + xs.length) s' E') ∧ (foldO st s xs = none → ∃ E', runForX mg mb (xs.map f) E = some (.ex c E'))
  | [], i, s, E, h, _ => ⟨fun s' e => ⟨E, rfl, by cases e; exact h⟩, fun z => by cases z⟩
  | x :: xs, i, s, E, h, hs => by
    obtain ⟨E1, h1, h2, h3⟩ := hs 0 x rfl s E h
    have red : runForX mg mb ((x :: xs).map f) E = (mb E1).bind fun o => match o with
        | .o (.nx E2) => runForX mg mb (xs.map f) E2
        | .o (.ct E2) => runForX mg mb (xs.map f) E2
        | .o (.bk E2) => some (.o (.nx E2))
        | .o (.rt r) => some (.o (.rt r))
        | .o (.rf r) => some (.o (.rf r))
        | .o (.tf d r) => some (.o (.tf d r))
        | .ex x E2 => some (.ex x E2) := by
      rw [List.map_cons]
      show (mg E (f x)).bind _ = _
      rw [h1]
      rfl
    rw [red]
    have fe : foldO st s (x :: xs) = (st s x).bind fun s' => foldO st s' xs := rfl
    rw [fe]
    cases hp : st s x with
    | some s1 =>
      obtain ⟨E2, h4, h5⟩ := h2 s1 hp
      rw [h4]
      have ih := runForX_st (mg := mg) (mb := mb) st f c I xs (i + 1) s1 E2 h5 fun j y hy s E hI => by
        have e : i + 1 + j = i + (j + 1) := by omega
        rw [e] at hI ⊢
        exact hs (j + 1) y (by simpa using hy) s E hI
      rw [show i + (x :: xs).length = i + 1 + xs.length by rw [List.length_cons]; omega]
      exact ih
    | none =>
      obtain ⟨E2, h4⟩ := h3 hp
      rw [h4]
      exact ⟨fun s' e => (by cases e), fun _ => ⟨E2, rfl⟩⟩
/-! ### clocks -/
abbrev Ck := Str × Int
def encK (c : Ck) : D := .tup [.str c.1, .int c.2]
def ckOk (c : Ck) : Bool := isName c.1 && decide (0 ≤ c.2 ∧ c.2 ≤ 1000000)
def nmK (cs : List Ck) : List Str := cs.map (·.1)
def goodK (cs : List Ck) : Bool := decide (1 ≤ cs.length ∧ cs.length ≤ 6) && (cs.all ckOk && decide (nmK cs).Nodup)
def shortK (cs : List Ck) : Prop := cs.length ≤ 1000 ∧ ∀ c ∈ cs, c.1.length ≤ 100000
def stK (ns : List Str) (c : Ck) : Option (List Str) := if ckOk c = true ∧ c.1 ∉ ns then some (ns ++ [c.1]) else none
theorem foldK : ∀ (cs : List Ck) (ns : List Str), ns.Nodup → foldO stK ns cs = if cs.all ckOk = true ∧ (ns ++ nmK cs).Nodup then some (ns ++ nmK cs) else none
  | [], ns, h => by
    have : (ns ++ nmK []).Nodup := by
      show (ns ++ []).Nodup
      rw [List.append_nil]
      exact h
    show some ns = _
    rw [if_pos ⟨rfl, this⟩]
    show some ns = some (ns ++ [])
    rw [List.append_nil]
  | c :: cs, ns, h => by
    show (stK ns c).bind _ = _
    unfold stK
    have e : ns ++ nmK (c :: cs) = (ns ++ [c.1]) ++ nmK cs := by
      show ns ++ (c.1 :: nmK cs) = _
      rw [List.append_assoc]
      rfl
    by_cases hc : ckOk c = true ∧ c.1 ∉ ns
    · rw [if_pos hc]
      show foldO stK (ns ++ [c.1]) cs = _
      have nd : (ns ++ [c.1]).Nodup := by
        rw [List.nodup_append]
        exact ⟨h, by simp, fun a ha b hb => by
          rw [List.mem_singleton.mp hb]
          exact fun z => hc.2 (z ▸ ha)⟩
      rw [foldK cs _ nd, e]
      simp only [List.all_cons, hc.1, Bool.true_and]
    · rw [if_neg hc]
      show none = _
      rw [if_neg]
      intro ⟨z1, z2⟩
      rw [List.all_cons, Bool.and_eq_true] at z1
      refine hc ⟨z1.1, fun hm => ?_⟩
      rw [List.nodup_append] at z2
      exact z2.2.2 _ hm c.1 (List.mem_cons_self ..) rfl
theorem unl_full {κ : Type} [DecidableEq κ] (ks : List κ) : ∀ i, i ≤ ks.length → (unl ks i = i ↔ (ks.take i).Nodup)
  | 0, _ => by simp [unl]
  | i + 1, h => by
    have hi : i < ks.length := h
    have ih := unl_full ks i (by omega)
    have hle := unl_le ks i
    unfold unl
    rw [List.getElem?_eq_getElem hi, List.take_add_one, List.getElem?_eq_getElem hi]
    show (if ks[i] ∈ ks.take i then unl ks i else unl ks i + 1) = i + 1 ↔ (ks.take i ++ [ks[i]]).Nodup
    rw [List.nodup_append]
    by_cases hm : ks[i] ∈ ks.take i
    · rw [if_pos hm]
      constructor
      · intro z; omega
      · intro z; exact absurd rfl (z.2.2 _ hm _ (List.mem_singleton.mpr rfl))
    · rw [if_neg hm]
      constructor
      · intro z
        exact ⟨ih.mp (by omega), by simp, fun a ha b hb => by
          rw [List.mem_singleton.mp hb]
          exact fun w => hm (w ▸ ha)⟩
      · intro z
        have := ih.mpr z.1
        omega
theorem sizeU_nd (ns : List Str) : (sizeU ns = ns.length) ↔ ns.Nodup := by
  have := unl_full ns ns.length (Nat.le_refl _)
  rwa [List.take_length] at this
theorem comp_nm {me : En → D → Option En} {mv : En → Option D} {E0 : En} (cs : List Ck) (h : ∀ c ∈ cs, ∃ E1, me E0 (encK c) = some E1 ∧ mv E1 = some (.str c.1)) : runComp me mYes mv E0 (cs.map encK) = some ((nmK cs).map .str) := by
  obtain ⟨ys, c1, c2⟩ := runComp_enc (mg := me) (mt := mYes) (me := mv) (E0 := E0) encK D.str (fun c s => s = c.1) cs fun c hc => by
    obtain ⟨E1, h1, h2⟩ := h c hc
    exact ⟨E1, c.1, h1, rfl, h2, rfl⟩
  rw [c1, Paired.fn c2]
  rfl
theorem check_clocks_ok {cs : List Ck} (h : shortK cs) : mX__check_clocks [.tup (cs.map encK)] = some (if goodK cs = true then .ok .non else .ex "BadTrace") := by
  obtain ⟨hn, hl⟩ := h
  unfold mX__check_clocks callX b__check_clocks
  by_cases h6 : 1 ≤ cs.length ∧ cs.length ≤ 6
  · have q1 : (1 : Int) ≤ (cs.length : Int) := by omega
    have q2 : (cs.length : Int) ≤ 6 := by omega
    generalize hmb : (mIfX (mOr (mNot (fun E => ((mCall 1 m_is_name (mCons (mVar 1) mNil)) E).bind truD)) _) (mRaise "BadTrace") mNextX) = mb
    have key := runForX_st (mg := gTupM 2 (gsCons (gM 1) (gsCons (gM 2) gsNil))) (mb := mb) (fun (_ : Unit) c => if ckOk c = true then some () else none) encK "BadTrace" (fun _ _ E => ∃ s1 s2, E = [.fz (.tup (cs.map encK)), s1, s2, .un]) cs 0 () [.fz (.tup (cs.map encK)), .un, .un, .un] ⟨_, _, rfl⟩ fun j c hj s E hI => by
      have hc := List.mem_of_getElem? hj
      obtain ⟨s1, s2, rfl⟩ := hI
      have g1 := is_name_ok (hl c hc)
      refine ⟨[.fz (.tup (cs.map encK)), .fz (.str c.1), .fz (.int c.2), .un], rfl, fun s' hs => ?_, fun hs => ?_⟩
      · obtain ⟨hk, _⟩ := ite_some hs
        unfold ckOk at hk
        rw [Bool.and_eq_true] at hk
        have r := of_decide_eq_true hk.2
        rw [hk.1] at g1
        subst hmb
        exact ⟨[.fz (.tup (cs.map encK)), .fz (.str c.1), .fz (.int c.2), .un], by simp [g1, r], _, _, rfl⟩
      · have hk : ckOk c = false := by
          cases q : ckOk c with
          | false => rfl
          | true => rw [if_pos q] at hs; cases hs
        subst hmb
        unfold ckOk at hk
        rw [Bool.and_eq_false_iff] at hk
        cases q : isName c.1 with
        | false =>
          rw [q] at g1
          exact ⟨[.fz (.tup (cs.map encK)), .fz (.str c.1), .fz (.int c.2), .un], by simp [g1]⟩
        | true =>
          have r := of_decide_eq_false (hk.resolve_left (by rw [q]; simp))
          rw [q] at g1
          by_cases z : 0 ≤ c.2
          · have z2 : ¬ c.2 ≤ 1000000 := fun w => r ⟨z, w⟩
            exact ⟨[.fz (.tup (cs.map encK)), .fz (.str c.1), .fz (.int c.2), .un], by simp [g1, z, z2]⟩
          · exact ⟨[.fz (.tup (cs.map encK)), .fz (.str c.1), .fz (.int c.2), .un], by simp [g1, z]⟩
    have hf : ∀ cs : List Ck, foldO (fun (_ : Unit) c => if ckOk c = true then some () else none) () cs = if cs.all ckOk = true then some () else none := fun cs => by
      induction cs with
      | nil => rfl
      | cons c cs ih =>
        show ((if ckOk c = true then some () else none).bind _) = _
        rw [List.all_cons]
        cases q : ckOk c with
        | true => rw [if_pos rfl, Bool.true_and]; exact ih
        | false => rw [if_neg Bool.false_ne_true, Bool.false_and]; rfl
    rw [hf] at key
    cases ha : cs.all ckOk with
    | false =>
      rw [ha] at key
      obtain ⟨E', k1⟩ := key.2 rfl
      have e0 : goodK cs = false := by unfold goodK; rw [ha]; simp
      rw [e0]
      simp [q1, q2, k1]
    | true =>
      rw [ha] at key
      obtain ⟨E', k1, s1, s2, rfl⟩ := key.1 () rfl
      have cm := comp_nm (me := gTupM 2 (gsCons (gM 1) (gsCons (gM 3) gsNil))) (mv := mVar 1) (E0 := [.fz (.tup (cs.map encK)), .un, s2, .un]) cs fun c _ => ⟨[.fz (.tup (cs.map encK)), .fz (.str c.1), s2, .fz (.int c.2)], rfl, rfl⟩
      have nl : (nmK cs).length = cs.length := List.length_map ..
      have e0 : goodK cs = decide (nmK cs).Nodup := by unfold goodK; rw [ha, decide_eq_true h6]; simp
      rw [e0]
      have sn := sizeU_nd (nmK cs)
      rw [nl] at sn
      by_cases nd : (nmK cs).Nodup
      · have q3 := sn.mpr nd
        simp [q1, q2, k1, cm, allStrs_map, nl, show cs.length ≤ 100000 by omega, show cs.length ≤ 4000 by omega, q3, nd]
      · have q3 : ¬ sizeU (nmK cs) = cs.length := fun z => nd (sn.mp z)
        have q4 : ¬ ((sizeU (nmK cs) : Nat) : Int) = (cs.length : Int) := by omega
        simp [q4, q1, q2, k1, cm, allStrs_map, nl, show cs.length ≤ 100000 by omega, show cs.length ≤ 4000 by omega, q3, nd]
  · have e0 : goodK cs = false := by unfold goodK; rw [decide_eq_false h6]; rfl
    rw [e0]
    by_cases q : 1 ≤ cs.length
    · have q2 : ¬ (cs.length : Int) ≤ 6 := by omega
      have q1 : (1 : Int) ≤ (cs.length : Int) := by omega
      simp [q1, q2]
    · have q1 : ¬ (1 : Int) ≤ (cs.length : Int) := by omega
      simp [q1]
end Sx

set_option Elab.async false
set_option linter.all false
set_option maxRecDepth 100000
set_option maxHeartbeats 2000000
namespace Sx
open PySem L2
theorem contains_dec (ns : List Str) (s : Str) : ns.contains s = decide (s ∈ ns) := by simp
theorem inD_strs (s : Str) (ns : List Str) : inDA (.str s) (.lst (ns.map .str)) = some (.bl (decide (s ∈ ns))) := by
  show ((seqOf (.lst (ns.map .str))).bind allStrs).map (fun ss => D.bl (ss.contains s)) = _
  show (allStrs (ns.map .str)).map (fun ss => D.bl (ss.contains s)) = _
  rw [allStrs_map]
  show some (D.bl (ns.contains s)) = _
  rw [contains_dec]
theorem good_clocks_ok {cs : List Ck} (h : shortK cs) : m__law_good_clocks [.lst (cs.map encK)] = some (.bl (goodK cs)) := by
  obtain ⟨hn, hl⟩ := h
  unfold m__law_good_clocks callM b__law_good_clocks
  generalize hmb : mSeq (mIfS _ _ _) (mApp 1 _) = mb
  have key := runFor_st (mg := gM 2) (mb := mb) stK encK (.bl false) (fun j ns E => (∃ s, E = [.fz (.lst (cs.map encK)), .ow (ns.map .str), s]) ∧ ns.length = j) cs 0 [] [.fz (.lst (cs.map encK)), .ow [], .un] ⟨⟨_, rfl⟩, rfl⟩ fun j c hj ns E hI => by
    obtain ⟨⟨s, rfl⟩, hns⟩ := hI
    have hc := List.mem_of_getElem? hj
    have hjl := (List.getElem?_eq_some_iff.mp hj).1
    have g1 := law_is_name_ok (hl c hc)
    have g2 := inD_strs c.1 ns
    have i0 : ixD (encK c) (.int 0) = some (.str c.1) := rfl
    have i1 : ixD (encK c) (.int 1) = some (.int c.2) := rfl
    have nl : ns.length < 100000 := by omega
    refine ⟨[.fz (.lst (cs.map encK)), .ow (ns.map .str), .fz (encK c)], rfl, fun s' hs => ?_, fun hs => ?_⟩
    · unfold stK at hs
      obtain ⟨⟨hk, hnn⟩, rfl⟩ := ite_some hs
      unfold ckOk at hk
      rw [Bool.and_eq_true] at hk
      have r := of_decide_eq_true hk.2
      rw [hk.1] at g1
      rw [decide_eq_false hnn] at g2
      subst hmb
      refine ⟨[.fz (.lst (cs.map encK)), .ow ((ns ++ [c.1]).map .str), .fz (encK c)], ?_, ⟨_, rfl⟩, by rw [List.length_append, hns]; rfl⟩
      simp [-inDA, -ixD, i0, i1, g1, g2, r, nl]
    · have hs' : ¬ (ckOk c = true ∧ c.1 ∉ ns) := fun z => by
        unfold stK at hs
        rw [if_pos z] at hs
        cases hs
      subst hmb
      unfold ckOk at hs'
      cases q1 : isName c.1 with
      | false =>
        rw [q1] at g1
        simp [-inDA, -ixD, i0, i1, g1]
      | true =>
        rw [q1] at g1 hs'
        by_cases q2 : c.1 ∈ ns
        · rw [decide_eq_true q2] at g2
          simp [-inDA, -ixD, i0, i1, g1, g2]
        · rw [decide_eq_false q2] at g2
          by_cases z : 0 ≤ c.2
          · have z2 : ¬ c.2 ≤ 1000000 := fun w => hs' ⟨by simp [z, w], q2⟩
            simp [-inDA, -ixD, i0, i1, g1, g2, z, z2]
          · simp [-inDA, -ixD, i0, i1, g1, g2, z]
  rw [foldK cs [] List.nodup_nil, List.nil_append] at key
  by_cases ha : cs.all ckOk = true ∧ (nmK cs).Nodup
  · rw [if_pos ha] at key
    obtain ⟨E', k1, ⟨s, rfl⟩, _⟩ := key.1 _ rfl
    have e0 : goodK cs = decide (1 ≤ cs.length ∧ cs.length ≤ 6) := by unfold goodK; rw [ha.1, decide_eq_true ha.2]; simp
    rw [e0]
    by_cases q : 1 ≤ cs.length
    · have q1 : (1 : Int) ≤ (cs.length : Int) := by omega
      by_cases q2 : cs.length ≤ 6
      · have q3 : (cs.length : Int) ≤ 6 := by omega
        simp [k1, q, q1, q2, q3]
      · have q3 : ¬ (cs.length : Int) ≤ 6 := by omega
        simp [k1, q, q1, q2, q3]
    · have q1 : ¬ (1 : Int) ≤ (cs.length : Int) := by omega
      simp [k1, q, q1]
  · rw [if_neg ha] at key
    have k1 := key.2 rfl
    have e0 : goodK cs = false := by
      unfold goodK
      cases h1 : cs.all ckOk with
      | false => simp
      | true =>
        have : ¬ (nmK cs).Nodup := fun z => ha ⟨h1, z⟩
        simp [this]
    rw [e0]
    simp [k1]
end Sx

set_option Elab.async false
set_option linter.all false
set_option maxRecDepth 100000
set_option maxHeartbeats 2000000
namespace Sx
open PySem L2
/-! ### spans -/
structure Spn where
  n : Str
  p : Option Str
  c : Str
  s : Option Int
  e : Option Int
def oS : Option Str → D
  | none => .non
  | some s => .str s
def oI : Option Int → D
  | none => .non
  | some i => .int i
def encS (x : Spn) : D := .tup [.str x.n, oS x.p, .str x.c, oI x.s, oI x.e]
def nmS (xs : List Spn) : List Str := xs.map (·.n)
def evenS (x : Spn) : Prop := x.s.isNone = x.e.isNone
def lies (x u : Spn) : Bool := match x.s, x.e, u.s, u.e with
  | some a, some b, some c, some d => decide (x.c ≠ u.c) || decide (c ≤ a ∧ b ≤ d)
  | _, _, _, _ => true
theorem lies_ok {x u : Spn} (hx : evenS x) (hu : evenS u) : m__lies_within [encS x, encS u] = some (.bl (lies x u)) := by
  obtain ⟨xn, xp, xc, xs, xe⟩ := x
  obtain ⟨un, up, uc, us, ue⟩ := u
  unfold m__lies_within callM b__lies_within encS lies
  have e2 : ∀ a b : Str, neD (.str a) (.str b) = some (.bl (!decide (a = b))) := fun a b => rfl
  unfold evenS at hx hu
  cases xs <;> cases xe <;> cases us <;> cases ue <;> simp at hx hu <;> simp [-neD, oS, oI, e2]
  · rename_i a b c d
    by_cases h : xc = uc
    · by_cases h1 : c ≤ a <;> by_cases h2 : b ≤ d <;> simp [h, h1, h2]
    · simp [h]
def findS : List Spn → Str → Option Spn
  | [], _ => none
  | u :: us, p => if u.n = p then some u else findS us p
theorem find_mem {p : Str} : ∀ {es : List Spn}, p ∈ nmS es → ∃ u ∈ es, findS es p = some u
  | [], h => by cases h
  | u :: us, h => by
    unfold findS
    by_cases e : u.n = p
    · rw [if_pos e]
      exact ⟨u, List.mem_cons_self .., rfl⟩
    · rw [if_neg e]
      rcases List.mem_cons.mp (show p ∈ u.n :: nmS us from h) with z | z
      · exact absurd z.symm e
      · obtain ⟨v, h1, h2⟩ := find_mem z
        exact ⟨v, List.mem_cons_of_mem _ h1, h2⟩
def keysS (es : List Spn) : List Key := (nmS es).map Sum.inr
def valsS (es : List Spn) : List R := (es.map encS).map R.fz
theorem closeds_vals (es : List Spn) : closeds (valsS es) = some (es.map encS) := closeds_fz _
theorem mem_keys {es : List Spn} {n : Str} : (Sum.inr n : Key) ∈ keysS es ↔ n ∈ nmS es := by
  unfold keysS
  simp
theorem memK_keys (es : List Spn) (n : Str) : memK (Sum.inr n : Key) (keysS es) = decide (n ∈ nmS es) := by
  unfold memK
  rw [decide_eq_decide]
  exact mem_keys
theorem in_dict (es : List Spn) (n : Str) : inD2 (.str n) (.dct (.k (keysS es)) (es.map encS)) = some (.bl (decide (n ∈ nmS es))) := by
  show some (D.bl (memK (Sum.inr n : Key) (keysS es))) = _
  rw [memK_keys]
theorem notin_dict (es : List Spn) (n : Str) : notInD2 (.str n) (.dct (.k (keysS es)) (es.map encS)) = some (.bl (!decide (n ∈ nmS es))) := by
  show some (D.bl (!memK (Sum.inr n : Key) (keysS es))) = _
  rw [memK_keys]
theorem at_dict : ∀ (es : List Spn) (p : Str), atK (keysS es) (es.map encS) (Sum.inr p) = (findS es p).map encS
  | [], p => rfl
  | u :: us, p => by
    show atK ((Sum.inr u.n : Key) :: keysS us) (encS u :: us.map encS) (Sum.inr p) = _
    unfold atK findS
    by_cases e : u.n = p
    · rw [if_pos (by rw [e]), if_pos e]
      rfl
    · rw [if_neg (fun z => e (Sum.inr.inj z)), if_neg e]
      exact at_dict us p
theorem ix_dict (es : List Spn) (p : Str) : ixD2 (.dct (.k (keysS es)) (es.map encS)) (.str p) = (findS es p).map encS := by
  rw [← at_dict]
  show (some (atK (keysS es) (es.map encS) (Sum.inr p))).bind id = _
  rfl
theorem put_dict (es : List Spn) (x : Spn) (h : x.n ∉ nmS es) : putKS (.k (keysS es)) (valsS es) (.str x.n) (.fz (encS x)) = some (.k (keysS (es ++ [x])), valsS (es ++ [x])) := by
  have h' : (Sum.inr x.n : Key) ∉ keysS es := fun z => h (mem_keys.mp z)
  show some (KS.k (putKey (keysS es) (Sum.inr x.n)), putVal (keysS es) (valsS es) (Sum.inr x.n) (.fz (encS x))) = _
  unfold putKey putVal
  rw [if_neg h', if_neg h']
  unfold keysS valsS nmS
  simp
def bad3 (x : Spn) : Bool := match x.s, x.e with
  | some a, some b => decide (b < a)
  | _, _ => false
def ok3 (x : Spn) : Bool := match x.s, x.e with
  | some a, some b => decide (a ≤ b)
  | _, _ => true
theorem bad_ok (x : Spn) : bad3 x = !ok3 x := by
  unfold bad3 ok3
  cases x.s <;> cases x.e <;> try rfl
  rename_i a b
  dsimp only
  by_cases h : a ≤ b
  · rw [decide_eq_true h, decide_eq_false (by omega)]; rfl
  · rw [decide_eq_false h, decide_eq_true (by omega)]; rfl
def parIn (es : List Spn) (x : Spn) : Bool := match x.p with
  | none => true
  | some p => decide (p ∈ nmS es)
def parLies (es : List Spn) (x : Spn) : Bool := match x.p with
  | none => true
  | some p => match findS es p with
    | some u => lies x u
    | none => true
def spOk (ns : List Str) (es : List Spn) (x : Spn) : Bool :=
  isName x.n && (!decide (x.n ∈ nmS es) && (decide (x.c ∈ ns) && ((parIn es x) && (decide (x.s.isNone = x.e.isNone) &&
    ((ok3 x) && (parLies es x))))))
def stS (ns : List Str) (es : List Spn) (x : Spn) : Option (List Spn) := if spOk ns es x = true then some (es ++ [x]) else none
def goodS (ns : List Str) (xs : List Spn) : Bool := (foldO (stS ns) [] xs).isSome
def shortS (xs : List Spn) : Prop := xs.length ≤ 1000 ∧ ∀ x ∈ xs, x.n.length ≤ 100000
def wfS' (es : List Spn) : Prop := ∀ u ∈ es, evenS u
theorem stepX {c : En → Option Bool} {r : En → Option OutX} {E : En} {x : Str} {b : Bool} (h : c E = some b) : mSeqX (mIfX c (mRaise x) mNextX) r E = if b = true then some (.ex x E) else r E := by
  show ((c E).bind _).bind _ = _
  rw [h]
  cases b <;> rfl
theorem seqO_nx {a : En → Option Out} {r : En → Option OutX} {E E1 : En} (h : a E = some (.nx E1)) : mSeqX (mO a) r E = r E1 := by
  show ((a E).map OutX.o).bind _ = _
  rw [h]
  rfl
def envS (cs : List Ck) (xs es : List Spn) (x : Spn) : En := [.fz (.tup (cs.map encK)), .fz (.tup (xs.map encS)), .fz (.lst ((nmK cs).map .str)), .rt (.rf 11), .fz (encS x), .fz (.str x.n), .fz (oS x.p), .fz (.str x.c), .fz (oI x.s), .fz (oI x.e), .un, .nd (.dct (.k (keysS es)) (valsS es))]
theorem cond1 {cs : List Ck} {xs es : List Spn} {x : Spn} (h : x.n.length ≤ 100000) : (mOr (mNot (fun E => ((mCall 1 m_is_name (mCons (mVar 5) mNil)) E).bind truD)) (fun E => ((mBin inD2 (mVarT 5) (mVarT 3)) E).bind blOf)) (envS cs xs es x) = some (!isName x.n || decide (x.n ∈ nmS es)) := by
  have g1 := is_name_ok h
  have g2 := in_dict es x.n
  have gc := closeds_vals es
  unfold envS
  cases q : isName x.n <;> rw [q] at g1 <;> simp [-inD2, g1, g2, gc]
theorem cond2 {cs : List Ck} {xs es : List Spn} {x : Spn} : (mOr (fun E => ((mBin notInDA (mVarT 7) (mVarT 2)) E).bind blOf) (mAnd (fun E => ((mVarT 6) E).map (fun d => !isN d)) (fun E => ((mBin notInD2 (mVarT 6) (mVarT 3)) E).bind blOf))) (envS cs xs es x) = some (!decide (x.c ∈ nmK cs) || (match x.p with | none => false | some p => !decide (p ∈ nmS es))) := by
  have g3 : notInDA (.str x.c) (.lst ((nmK cs).map .str)) = some (.bl (!decide (x.c ∈ nmK cs))) := by
    show (inDA (.str x.c) (.lst ((nmK cs).map .str))).map _ = _
    rw [inD_strs]
    rfl
  have gc := closeds_vals es
  unfold envS
  cases hp : x.p with
  | none => cases hd : decide (x.c ∈ nmK cs) <;> rw [hd] at g3 <;> simp [-notInDA, g3, oS]
  | some p =>
    have g4 := notin_dict es p
    cases hd : decide (x.c ∈ nmK cs) <;> rw [hd] at g3 <;> simp [-notInDA, -notInD2, g3, g4, gc, oS]
theorem cond3 {cs : List Ck} {xs es : List Spn} {x : Spn} : (mOr (fun E => ((mBin neD (mUn (fun d => some (.bl (isN d))) (mVarT 8)) (mUn (fun d => some (.bl (isN d))) (mVarT 9))) E).bind blOf) (mAnd (fun E => ((mVarT 8) E).map (fun d => !isN d)) (fun E => ((mBin (intOp fun i j => .bl (decide (j < i))) (mVarT 8) (mVarT 9)) E).bind blOf))) (envS cs xs es x) =
    some (!decide (x.s.isNone = x.e.isNone) || (bad3 x)) := by
  unfold envS bad3
  cases hs : x.s <;> cases he : x.e <;> simp [oI]
theorem cond4 {cs : List Ck} {xs es : List Spn} {x : Spn} (hx : evenS x) (hw : wfS' es) (hp : ∀ p, x.p = some p → p ∈ nmS es) : (mAnd (fun E => ((mVarT 6) E).map (fun d => !isN d)) (mNot (fun E => ((mCall 2 m__lies_within (mCons (mVar 4) (mCons (mBin ixD2 (mVarT 3) (mVarT 6)) mNil))) E).bind truD))) (envS cs xs es x) =
    some (match x.p with | none => false | some p => match findS es p with | some u => !lies x u | none => false) := by
  have gc := closeds_vals es
  unfold envS
  cases h : x.p with
  | none => simp [oS]
  | some p =>
    obtain ⟨u, hu, hf⟩ := find_mem (hp p h)
    have g5 := ix_dict es p
    rw [hf] at g5
    have g6 := lies_ok hx (hw u hu)
    simp [-ixD2, g5, g6, gc, oS, hf]
theorem foldS_rel {ns : List Str} (P : List Spn → Prop) (hP : ∀ es x, P es → spOk ns es x = true → P (es ++ [x])) : True := trivial
theorem check_spans_ok {cs : List Ck} {xs : List Spn} (h : shortK cs) (hx : shortS xs) : mX__check_spans [.tup (cs.map encK), .tup (xs.map encS)] = some (if goodS (nmK cs) xs = true then .ok .non else .ex "BadTrace") := by
  obtain ⟨hn, hl⟩ := h
  obtain ⟨hxn, hxl⟩ := hx
  unfold mX__check_spans callX b__check_spans
  have cm := comp_nm (me := gTupM 2 (gsCons (gM 5) (gsCons (gM 10) gsNil))) (mv := mVar 5) (E0 := [.fz (.tup (cs.map encK)), .fz (.tup (xs.map encS)), .un, .un, .un, .un, .un, .un, .un, .un, .un, .un]) cs fun c _ => ⟨[.fz (.tup (cs.map encK)), .fz (.tup (xs.map encS)), .un, .un, .un, .fz (.str c.1), .un, .un, .un, .un, .fz (.int c.2), .un], rfl, rfl⟩
  generalize hmb : (mSeqX (mO (mAsg (gTupM 5 _) (mVar 4))) _) = mb
  have key := runForX_st (mg := gM 4) (mb := mb) (stS (nmK cs)) encS "BadTrace" (fun j es E => (∃ s4 s5 s6 s7 s8 s9, E = [.fz (.tup (cs.map encK)), .fz (.tup (xs.map encS)), .fz (.lst ((nmK cs).map .str)), .rt (.rf 11), s4, s5, s6, s7, s8, s9, .un, .nd (.dct (.k (keysS es)) (valsS es))]) ∧ es.length = j ∧ wfS' es) xs 0 []
    [.fz (.tup (cs.map encK)), .fz (.tup (xs.map encS)), .fz (.lst ((nmK cs).map .str)), .rt (.rf 11), .un, .un, .un, .un, .un, .un, .un, .nd (.dct (.k []) [])] ⟨⟨_, _, _, _, _, _, rfl⟩, rfl, fun u hu => by cases hu⟩ fun j x hj es E hI => by
    obtain ⟨⟨s4, s5, s6, s7, s8, s9, rfl⟩, hes, hw⟩ := hI
    have hxm := List.mem_of_getElem? hj
    have hjl := (List.getElem?_eq_some_iff.mp hj).1
    have hel : (valsS es).length < 100000 := by unfold valsS; simp; omega
    refine ⟨[.fz (.tup (cs.map encK)), .fz (.tup (xs.map encS)), .fz (.lst ((nmK cs).map .str)), .rt (.rf 11), .fz (encS x), s5, s6, s7, s8, s9, .un, .nd (.dct (.k (keysS es)) (valsS es))], rfl, ?_⟩
    have val : ∃ E2, (spOk (nmK cs) es x = true → mb [.fz (.tup (cs.map encK)), .fz (.tup (xs.map encS)), .fz (.lst ((nmK cs).map .str)), .rt (.rf 11), .fz (encS x), s5, s6, s7, s8, s9, .un, .nd (.dct (.k (keysS es)) (valsS es))] = some (.o (.nx (envS cs xs (es ++ [x]) x))) ∧ evenS x) ∧
        (spOk (nmK cs) es x = false → mb [.fz (.tup (cs.map encK)), .fz (.tup (xs.map encS)), .fz (.lst ((nmK cs).map .str)), .rt (.rf 11), .fz (encS x), s5, s6, s7, s8, s9, .un, .nd (.dct (.k (keysS es)) (valsS es))] = some (.ex "BadTrace" E2)) := by
      refine ⟨envS cs xs es x, ?_⟩
      subst hmb
      rw [seqO_nx (E1 := envS cs xs es x) rfl, stepX (cond1 (hxl x hxm))]
      unfold spOk
      cases q1 : isName x.n with
      | false => simp
      | true =>
        by_cases q2 : x.n ∈ nmS es
        · simp [q2]
        · rw [if_neg (by simp [q2]), stepX cond2]
          by_cases q3 : x.c ∈ nmK cs
          · by_cases q4 : ∀ p, x.p = some p → p ∈ nmS es
            · have e2 : (!decide (x.c ∈ nmK cs) || (match x.p with | none => false | some p => !decide (p ∈ nmS es))) = false := by
                cases hp : x.p with
                | none => simp [q3]
                | some p => simp [q3, q4 p hp]
              have e4 : (parIn es x) = true := by
                unfold parIn
                cases hp : x.p with
                | none => rfl
                | some p => simp [q4 p hp]
              rw [e2, if_neg Bool.false_ne_true, stepX cond3, e4]
              by_cases q5 : x.s.isNone = x.e.isNone
              · by_cases q6 : (ok3 x) = true
                · have e6 : (bad3 x) = false := by rw [bad_ok, q6]; rfl
                  rw [e6, decide_eq_true q5, if_neg (by simp), stepX (cond4 q5 hw q4), q6]
                  have e7 : (match x.p with | none => false | some p => match findS es p with | some u => !lies x u | none => false) = !(parLies es x) := by
                    unfold parLies
                    cases x.p with
                    | none => rfl
                    | some p => dsimp only; cases findS es p <;> rfl
                  rw [e7]
                  have hput : (mO (mDPut 3 (mVar 4) (mVar 5))) (envS cs xs es x) = some (.o (.nx (envS cs xs (es ++ [x]) x))) := by
                    have pd := put_dict es x q2
                    unfold envS
                    simp [-putKS, pd, hel]
                  rw [hput]
                  cases (parLies es x) with
                  | true => simp [q2, q3, q5, evenS]
                  | false => simp [q2, q3, q5]
                · have e6 : (bad3 x) = true := by rw [bad_ok, Bool.not_eq_true _ |>.mp q6]; rfl
                  rw [e6]
                  rw [Bool.not_eq_true] at q6
                  rw [q6]
                  simp
              · simp [q5]
            · have e4 : (parIn es x) = false := by
                unfold parIn
                cases hp : x.p with
                | none => exact absurd (fun p h => by rw [hp] at h; cases h) q4
                | some p =>
                  refine decide_eq_false fun z => q4 fun p' h => ?_
                  rw [hp] at h
                  cases h
                  exact z
              have e5 : (match x.p with | none => false | some p => !decide (p ∈ nmS es)) = true := by
                cases hp : x.p with
                | none => unfold parIn at e4; rw [hp] at e4; cases e4
                | some p => unfold parIn at e4; rw [hp] at e4; simp at e4 ⊢; exact e4
              rw [e4, e5]
              simp
          · simp [q3]
    obtain ⟨E2, v1, v2⟩ := val
    refine ⟨fun s' hs => ?_, fun hs => ?_⟩
    · unfold stS at hs
      obtain ⟨hk, rfl⟩ := ite_some hs
      obtain ⟨v1, ev⟩ := v1 hk
      refine ⟨_, v1, ⟨_, _, _, _, _, _, rfl⟩, by rw [List.length_append, hes]; rfl, fun u hu => ?_⟩
      rcases List.mem_append.mp hu with z | z
      · exact hw u z
      · rw [List.mem_singleton.mp z]
        exact ev
    · refine ⟨E2, v2 ?_⟩
      cases q : spOk (nmK cs) es x with
      | false => rfl
      | true =>
        unfold stS at hs
        rw [if_pos q] at hs
        cases hs
  unfold goodS
  have n1 : (mO (mSet 2 (mList (mComp [5, 10] (fun E => ((mVar 0) E).bind tupOf) (gTupM 2 (gsCons (gM 5) (gsCons (gM 10) gsNil))) mYes (mVar 5))))) [.fz (.tup (cs.map encK)), .fz (.tup (xs.map encS)), .un, .un, .un, .un, .un, .un, .un, .un, .un, .un] = some (.o (.nx [.fz (.tup (cs.map encK)), .fz (.tup (xs.map encS)), .fz (.lst ((nmK cs).map .str)), .un, .un, .un, .un, .un, .un, .un, .un, .un])) := by
    simp [show cs.length ≤ 100000 by omega, cm]
  cases hf : foldO (stS (nmK cs)) [] xs with
  | some es =>
    obtain ⟨E', k1, _⟩ := key.1 es hf
    simp at k1 n1
    simp [n1, k1]
  | none =>
    obtain ⟨E', k1⟩ := key.2 hf
    simp at k1 n1
    simp [n1, k1]
end Sx

set_option Elab.async false
set_option linter.all false
set_option maxRecDepth 100000
set_option maxHeartbeats 2000000
namespace Sx
open PySem L2
theorem ix_map {α : Type} {f : α → D} {xs : List α} {i : Nat} {x : α} (h : xs[i]? = some x) : ixD (.lst (xs.map f)) (.int (i : Int)) = some (f x) := by
  show atI (xs.map f) (i : Int) = _
  rw [atI_nat, List.getElem?_map, h]
  rfl
theorem number_of_ok {ns : List Str} (s : Str) (hl : ns.length ≤ 100000) : ∃ r : Int, m__law_number_of [.lst (ns.map .str), .str s] = some (.int r) ∧ ((r = -1 ∧ s ∉ ns) ∨ ∃ j : Nat, r = j ∧ ns[j]? = some s ∧ ∀ i < j, ns[i]? ≠ some s) := by
  unfold m__law_number_of callM b__law_number_of
  generalize hmb : mIfS _ _ _ = mb
  have e2 : ∀ a b : Str, eqD (.str a) (.str b) = some (.bl (decide (a = b))) := fun a b => rfl
  have hlen : ((ns.map D.str).length : Int) = ns.length := by rw [List.length_map]
  have q1 : (ns.length : Int) ≤ 100000 := by omega
  have q2 : (-100000 : Int) ≤ (ns.length : Int) := by omega
  rcases runFor_find (mg := gM 2) (mb := mb) (fun j E => (∃ s', E = [.fz (.lst (ns.map .str)), .fz (.str s), s']) ∧ ∀ i < j, ns[i]? ≠ some s) (fun j r => r = .int j ∧ ns[j]? = some s ∧ ∀ i < j, ns[i]? ≠ some s) (rangeD 0 ns.length) 0 [.fz (.lst (ns.map .str)), .fz (.str s), .un] ⟨⟨_, rfl⟩, fun i hi => by omega⟩ (fun j d E hd hI => by
    obtain ⟨⟨s', rfl⟩, hb⟩ := hI
    obtain ⟨rfl, hj⟩ := range_at hd
    rw [Nat.zero_add] at hb ⊢
    rw [show (0 + (j : Int)) = (j : Int) by omega]
    refine ⟨_, rfl, ?_⟩
    have hn : ns[j]? = some ns[j] := List.getElem?_eq_getElem hj
    have g := ix_map (f := D.str) hn
    by_cases h : ns[j] = s
    · refine .inr ⟨.int j, ?_, rfl, by rw [hn, h], hb⟩
      subst hmb
      simp [-ixD, -eqD, g, e2, h]
    · refine .inl ⟨[.fz (.lst (ns.map .str)), .fz (.str s), .fz (.int j)], .inl ?_, ⟨_, rfl⟩, fun i hi => ?_⟩
      · subst hmb
        simp [-ixD, -eqD, g, e2, h]
      · rcases Nat.lt_succ_iff_lt_or_eq.mp hi with z | z
        · exact hb i z
        · rw [z, hn]
          exact fun w => h (Option.some.inj w)) with ⟨E', k1, ⟨s', rfl⟩, hb⟩ | ⟨j, r, k1, hj, rfl, h1, h2⟩
  · refine ⟨-1, ?_, .inl ⟨rfl, fun hm => ?_⟩⟩
    · simp [q1, q2, k1]
    · obtain ⟨i, hi, e⟩ := List.mem_iff_getElem.mp hm
      refine hb i (by rw [rangeD_len]; omega) ?_
      rw [List.getElem?_eq_getElem hi, e]
  · rw [Nat.zero_add] at h1 h2
    rw [Nat.zero_add] at k1
    exact ⟨j, by simp [q1, q2, k1], .inr ⟨j, rfl, h1, h2⟩⟩
theorem stepS {c : En → Option Bool} {r : En → Option Out} {E : En} {d : D} {b : Bool} (h : c E = some b) : mSeq (mIfS c (mRet (mC d)) mNext) r E = if b = true then some (.rt d) else r E := by
  show ((c E).bind _).bind _ = _
  rw [h]
  cases b <;> rfl
def shapeD (cs : List Ck) (xs : List Spn) (leap : Int) : D := .lst [.lst (cs.map encK), .lst (xs.map encS), .int leap]
def envL (sh : D) (ns : List Str) (k : Nat) (x : Spn) (s4 s5 s6 : Sl) : En := [.fz sh, .ow (ns.map .str), .fz (.int k), .fz (encS x), s4, s5, s6]
section
variable {cs : List Ck} {xs : List Spn} {leap : Int} {ns : List Str} {k : Nat} {x : Spn} {s4 s5 s6 : Sl}
theorem lc1 (hl : ∀ c ∈ cs, c.1.length ≤ 100000) (hn : cs.length ≤ 1000) (h : x.n.length ≤ 100000) : (mOr (mNot (fun E => ((mCall 1 m__law_is_name (mCons (mBin ixD (mVarT 3) (mC (.int 0))) mNil)) E).bind truD)) (mOr (fun E => ((mBin inDA (mBin ixD (mVarT 3) (mC (.int 0))) (mVarT 1)) E).bind blOf) (fun E => ((mBin notInDA (mBin ixD (mVarT 3) (mC (.int 2))) (mList (mComp [6] (fun E => ((mBin ixD (mVarT 0) (mC (.int 0))) E).bind lstOf) (gM 6) mYes (mBin ixD (mVarT 6) (mC (.int 0)))))) E).bind blOf)))
    (envL (shapeD cs xs leap) ns k x s4 s5 s6) = some (!isName x.n || (decide (x.n ∈ ns) || !decide (x.c ∈ nmK cs))) := by
  have g1 := law_is_name_ok h
  have g2 := inD_strs x.n ns
  have g3 : notInDA (.str x.c) (.lst ((nmK cs).map .str)) = some (.bl (!decide (x.c ∈ nmK cs))) := by
    show (inDA (.str x.c) (.lst ((nmK cs).map .str))).map _ = _
    rw [inD_strs]
    rfl
  have i0 : ixD (encS x) (.int 0) = some (.str x.n) := rfl
  have i2 : ixD (encS x) (.int 2) = some (.str x.c) := rfl
  have j0 : ixD (shapeD cs xs leap) (.int 0) = some (.lst (cs.map encK)) := rfl
  have cm := comp_nm (me := gM 6) (mv := mBin ixD (mVarT 6) (mC (.int 0))) (E0 := [.fz (shapeD cs xs leap), .ow (ns.map .str), .fz (.int k), .fz (encS x), s4, s5, .un]) cs fun c _ => ⟨[.fz (shapeD cs xs leap), .ow (ns.map .str), .fz (.int k), .fz (encS x), s4, s5, .fz (encK c)], rfl, rfl⟩
  have hcomp : mComp [6] (fun E => ((mBin ixD (mVarT 0) (mC (.int 0))) E).bind lstOf) (gM 6) mYes (mBin ixD (mVarT 6) (mC (.int 0))) (envL (shapeD cs xs leap) ns k x s4 s5 s6) = some ((nmK cs).map .str) := by
    show ((ixD (shapeD cs xs leap) (.int 0)).bind lstOf).bind _ = _
    rw [j0]
    show (if (cs.map encK).length ≤ 100000 then runComp _ _ _ _ _ else none) = _
    rw [if_pos (by rw [List.length_map]; omega)]
    exact cm
  generalize hq : mComp [6] _ _ _ _ = q at hcomp ⊢
  unfold envL at hcomp ⊢
  cases q1 : isName x.n with
  | false =>
    rw [q1] at g1
    simp [-ixD, i0, g1]
  | true =>
    rw [q1] at g1
    cases q2 : decide (x.n ∈ ns) with
    | true =>
      rw [q2] at g2
      simp [-ixD, -inDA, i0, g1, g2]
    | false =>
      rw [q2] at g2
      simp [-ixD, -inDA, -notInDA, i0, i2, g1, g2, g3, hcomp]
theorem lc2 : (fun E => ((mBin neD (mUn (fun d => some (.bl (isN d))) (mBin ixD (mVarT 3) (mC (.int 3)))) (mUn (fun d => some (.bl (isN d))) (mBin ixD (mVarT 3) (mC (.int 4))))) E).bind blOf) (envL (shapeD cs xs leap) ns k x s4 s5 s6) = some (!decide (x.s.isNone = x.e.isNone)) := by
  have i3 : ixD (encS x) (.int 3) = some (oI x.s) := rfl
  have i4 : ixD (encS x) (.int 4) = some (oI x.e) := rfl
  unfold envL
  cases hs : x.s <;> cases he : x.e <;> rw [hs] at i3 <;> rw [he] at i4 <;> simp [-ixD, i3, i4, oI]
theorem lc3 (hx : evenS x) : (mAnd (fun E => ((mBin ixD (mVarT 3) (mC (.int 3))) E).map (fun d => !isN d)) (fun E => ((mBin (intOp fun i j => .bl (decide (j < i))) (mBin ixD (mVarT 3) (mC (.int 3))) (mBin ixD (mVarT 3) (mC (.int 4)))) E).bind blOf)) (envL (shapeD cs xs leap) ns k x s4 s5 s6) =
    some (bad3 x) := by
  have i3 : ixD (encS x) (.int 3) = some (oI x.s) := rfl
  have i4 : ixD (encS x) (.int 4) = some (oI x.e) := rfl
  unfold evenS at hx
  unfold envL bad3
  cases hs : x.s <;> cases he : x.e <;> rw [hs] at i3 hx <;> rw [he] at i4 hx <;> simp at hx <;> simp [-ixD, i3, i4, oI]
theorem findS_at : ∀ {es : List Spn} {j : Nat} {p : Str}, (nmS es)[j]? = some p → (∀ i < j, (nmS es)[i]? ≠ some p) → ∃ u, es[j]? = some u ∧ findS es p = some u
  | [], j, p, h, _ => by simp [nmS] at h
  | u :: us, 0, p, h, _ => by
    have h : u.n = p := by simpa [nmS] using h
    exact ⟨u, rfl, by unfold findS; rw [if_pos h]⟩
  | u :: us, j + 1, p, h, hb => by
    have h0 : ¬ u.n = p := fun z => hb 0 (by omega) (by simp [nmS, z])
    obtain ⟨v, h1, h2⟩ := findS_at (es := us) (j := j) (p := p) (by simpa [nmS] using h) fun i hi z => hb (i + 1) (by omega) (by simpa [nmS] using z)
    exact ⟨v, by simpa using h1, by unfold findS; rw [if_neg h0]; exact h2⟩
end
end Sx

set_option Elab.async false
set_option linter.all false
set_option maxRecDepth 100000
set_option maxHeartbeats 4000000
namespace Sx
open PySem L2
section
variable {cs : List Ck} {xs es : List Spn} {leap : Int} {k : Nat} {x : Spn} {s4 s5 s6 : Sl}
def parB : En → Option Out := (mIfS (fun E => ((mBin ixD (mVarT 3) (mC (.int 1))) E).map (fun d => !isN d)) (mSeq (mSet 4 (mCallT 2 m__law_number_of (mCons (mVarT 1) (mCons (mBin ixD (mVarT 3) (mC (.int 1))) mNil))))
      (mSeq (mIfS (fun E => ((mBin (intOp fun i j => .bl (decide (i < j))) (mVarT 4) (mC (.int 0))) E).bind blOf) (mRet (mC (.bl false))) mNext)
      (mSeq (mSet 5 (mBin ixD (mBin ixD (mVarT 0) (mC (.int 1))) (mVarT 4)))
      (mIfS (mAnd (fun E => ((mBin eqD (mBin ixD (mVarT 5) (mC (.int 2))) (mBin ixD (mVarT 3) (mC (.int 2)))) E).bind blOf) (mAnd (fun E => ((mBin ixD (mVarT 5) (mC (.int 3))) E).map (fun d => !isN d)) (fun E => ((mBin ixD (mVarT 3) (mC (.int 3))) E).map (fun d => !isN d)))) (mIfS (mOr (fun E => ((mBin (intOp fun i j => .bl (decide (i < j))) (mBin ixD (mVarT 3) (mC (.int 3))) (mBin ixD (mVarT 5) (mC (.int 3)))) E).bind blOf) (fun E => ((mBin (intOp fun i j => .bl (decide (j < i))) (mBin ixD (mVarT 3) (mC (.int 4))) (mBin ixD (mVarT 5) (mC (.int 4)))) E).bind blOf)) (mRet (mC (.bl false))) mNext) mNext)))) mNext)
theorem lcP (hx : evenS x) (hw : wfS' es) (hes : ∀ (j : Nat) (u : Spn), es[j]? = some u → xs[j]? = some u) (hl : es.length ≤ 100000) :
    ((parIn es x) && (parLies es x)) = true ∧ (∃ s4' s5', parB (envL (shapeD cs xs leap) (nmS es) k x s4 s5 s6) = some (.nx (envL (shapeD cs xs leap) (nmS es) k x s4' s5' s6))) ∨
    ((parIn es x) && (parLies es x)) = false ∧ parB (envL (shapeD cs xs leap) (nmS es) k x s4 s5 s6) = some (.rt (.bl false)) := by
  have i1 : ixD (encS x) (.int 1) = some (oS x.p) := rfl
  have i2 : ixD (encS x) (.int 2) = some (.str x.c) := rfl
  have i3 : ixD (encS x) (.int 3) = some (oI x.s) := rfl
  have i4 : ixD (encS x) (.int 4) = some (oI x.e) := rfl
  have j1 : ixD (shapeD cs xs leap) (.int 1) = some (.lst (xs.map encS)) := rfl
  have e2 : ∀ a b : Str, eqD (.str a) (.str b) = some (.bl (decide (a = b))) := fun a b => rfl
  cases hp : x.p with
  | none =>
    refine .inl ⟨by unfold parIn parLies; rw [hp]; rfl, s4, s5, ?_⟩
    rw [hp] at i1
    unfold parB envL
    simp [-ixD, i1, oS]
  | some p =>
    rw [hp] at i1
    obtain ⟨r, n1, n2⟩ := number_of_ok (ns := nmS es) p (by unfold nmS; rw [List.length_map]; exact hl)
    rcases n2 with ⟨rfl, hno⟩ | ⟨j, rfl, h1, h2⟩
    · refine .inr ⟨by unfold parIn; rw [hp]; simp [hno], ?_⟩
      unfold parB envL
      simp [-ixD, i1, oS, n1, nolst]
    · obtain ⟨u, hu, hf⟩ := findS_at h1 h2
      have hm : p ∈ nmS es := List.mem_of_getElem? h1
      have hue := hw u (List.mem_of_getElem? hu)
      have hxu := hes j u hu
      have g5 := ix_map (f := encS) hxu
      have u2 : ixD (encS u) (.int 2) = some (.str u.c) := rfl
      have u3 : ixD (encS u) (.int 3) = some (oI u.s) := rfl
      have u4 : ixD (encS u) (.int 4) = some (oI u.e) := rfl
      have hj0 : ¬ ((j : Int) < 0) := by omega
      have hj1 : (0 : Int) ≤ (j : Int) := by omega
      have p1 : parIn es x = true := by unfold parIn; rw [hp]; exact decide_eq_true hm
      have p2 : parLies es x = lies x u := by unfold parLies; rw [hp]; dsimp only; rw [hf]
      rw [p1, p2, Bool.true_and]
      unfold evenS at hx hue
      unfold lies parB envL
      cases hxs : x.s <;> cases hxe : x.e <;> rw [hxs] at i3 hx <;> rw [hxe] at i4 hx <;> simp at hx
      · refine .inl ⟨rfl, .fz (.int j), .fz (encS u), ?_⟩
        cases hus : u.s <;> rw [hus] at u3 <;> by_cases hc : u.c = x.c <;> simp [-ixD, -eqD, i1, i2, i3, i4, j1, u2, u3, u4, g5, e2, oS, oI, n1, nolst, hj0, hj1, hc]
      · rename_i a b
        cases hus : u.s <;> cases hue' : u.e <;> rw [hus] at u3 hue <;> rw [hue'] at u4 hue <;> simp at hue
        · refine .inl ⟨rfl, .fz (.int j), .fz (encS u), ?_⟩
          by_cases hc : u.c = x.c <;> simp [-ixD, -eqD, i1, i2, i3, i4, j1, u2, u3, u4, g5, e2, oS, oI, n1, nolst, hj0, hj1, hc]
        · rename_i c d
          by_cases hc : u.c = x.c
          · by_cases h3 : a < c
            · refine .inr ⟨by simp [hc]; omega, ?_⟩
              simp [-ixD, -eqD, i1, i2, i3, i4, j1, u2, u3, u4, g5, e2, oS, oI, n1, nolst, hj0, hj1, hc, h3]
            · by_cases h4 : d < b
              · refine .inr ⟨by simp [hc]; omega, ?_⟩
                simp [-ixD, -eqD, i1, i2, i3, i4, j1, u2, u3, u4, g5, e2, oS, oI, n1, nolst, hj0, hj1, hc, h3, h4]
              · refine .inl ⟨by simp [hc]; omega, .fz (.int j), .fz (encS u), ?_⟩
                simp [-ixD, -eqD, i1, i2, i3, i4, j1, u2, u3, u4, g5, e2, oS, oI, n1, nolst, hj0, hj1, hc, h3, h4]
          · have hc' : ¬ x.c = u.c := fun z => hc z.symm
            refine .inl ⟨by simp [hc'], .fz (.int j), .fz (encS u), ?_⟩
            simp [-ixD, -eqD, i1, i2, i3, i4, j1, u2, u3, u4, g5, e2, oS, oI, n1, nolst, hj0, hj1, hc]
end
def goodAll (cs : List Ck) (xs : List Spn) (leap : Int) : Bool := goodK cs && (decide (0 ≤ leap ∧ leap ≤ 1000000) && goodS (nmK cs) xs)
theorem foldO_zip {S α : Type} (st : S → α → Option S) : ∀ (xs : List α) (n : Nat) (s : S), foldO (fun s p => st s p.1) s (xs.zipIdx n) = foldO st s xs
  | [], _, _ => rfl
  | x :: xs, n, s => by
    show (st s x).bind _ = (st s x).bind _
    congr 1
    funext s'
    exact foldO_zip st xs (n + 1) s'
theorem zip_range (xs : List Spn) : xs.zipIdx.map (fun p => D.int (0 + (p.2 : Nat))) = rangeD 0 xs.length := by
  rw [rangeD_eq]
  have : xs.zipIdx.map (fun p => D.int (0 + (p.2 : Nat))) = (xs.zipIdx.map Prod.snd).map (fun (i : Nat) => D.int (0 + (i : Int))) := by rw [List.map_map]; rfl
  rw [this]
  congr 1
  rw [List.zipIdx_map_snd, List.range_eq_range']
theorem law_good_ok {cs : List Ck} {xs : List Spn} {leap : Int} (h : shortK cs) (hx : shortS xs) : m__law_good [shapeD cs xs leap] = some (.bl (goodAll cs xs leap)) := by
  have gk := good_clocks_ok h
  obtain ⟨hn, hl⟩ := h
  obtain ⟨hxn, hxl⟩ := hx
  have j0 : ixD (shapeD cs xs leap) (.int 0) = some (.lst (cs.map encK)) := rfl
  have j1 : ixD (shapeD cs xs leap) (.int 1) = some (.lst (xs.map encS)) := rfl
  have j2 : ixD (shapeD cs xs leap) (.int 2) = some (.int leap) := rfl
  unfold m__law_good callM b__law_good goodAll
  generalize hmb : (mSeq (mSet 3 (mBin ixD (mBin ixD (mVarT 0) (mC (.int 1))) (mVarT 2))) _) = mb
  cases q1 : goodK cs with
  | false =>
    rw [q1] at gk
    simp [-ixD, j0, gk]
  | true =>
    rw [q1] at gk
    by_cases q2 : 0 ≤ leap ∧ leap ≤ 1000000
    · have key := runFor_st (mg := gM 2) (mb := mb) (fun es (p : Spn × Nat) => stS (nmK cs) es p.1) (fun p => D.int (0 + (p.2 : Nat))) (.bl false) (fun j es E => (∃ s2 s3 s4 s5, E = [.fz (shapeD cs xs leap), .ow ((nmS es).map .str), s2, s3, s4, s5, .un]) ∧ es = xs.take j ∧ wfS' es) xs.zipIdx 0 []
        [.fz (shapeD cs xs leap), .ow [], .un, .un, .un, .un, .un] ⟨⟨_, _, _, _, rfl⟩, rfl, fun u hu => by cases hu⟩ fun j p hj es E hI => by
        obtain ⟨⟨s2, s3, s4, s5, rfl⟩, hes, hw⟩ := hI
        rw [Nat.zero_add] at hes ⊢
        rw [List.getElem?_zipIdx] at hj
        obtain ⟨x, hx0, rfl⟩ := map_some hj
        have hxm := List.mem_of_getElem? hx0
        have hjl := (List.getElem?_eq_some_iff.mp hx0).1
        rw [Nat.zero_add]
        dsimp only
        rw [show (0 + ((j : Nat) : Int)) = (j : Int) by omega]
        have esl : es.length = j := by rw [hes, List.length_take]; omega
        have g0 := ix_map (f := encS) hx0
        refine ⟨_, rfl, ?_⟩
        have hsub : ∀ (i : Nat) (u : Spn), es[i]? = some u → xs[i]? = some u := fun i u e => by
          rw [hes] at e
          have := (List.getElem?_eq_some_iff.mp e).1
          rw [List.length_take] at this
          rw [List.getElem?_take_of_lt (by omega)] at e
          exact e
        have red : mb [.fz (shapeD cs xs leap), .ow ((nmS es).map .str), .fz (.int j), s3, s4, s5, .un] = (mSeq (mIfS (mOr (mNot (fun E => ((mCall 1 m__law_is_name (mCons (mBin ixD (mVarT 3) (mC (.int 0))) mNil)) E).bind truD)) (mOr (fun E => ((mBin inDA (mBin ixD (mVarT 3) (mC (.int 0))) (mVarT 1)) E).bind blOf) (fun E => ((mBin notInDA (mBin ixD (mVarT 3) (mC (.int 2))) (mList (mComp [6] (fun E => ((mBin ixD (mVarT 0) (mC (.int 0))) E).bind lstOf) (gM 6) mYes (mBin ixD (mVarT 6) (mC (.int 0)))))) E).bind blOf))) (mRet (mC (.bl false))) mNext)
            (mSeq (mIfS (fun E => ((mBin neD (mUn (fun d => some (.bl (isN d))) (mBin ixD (mVarT 3) (mC (.int 3)))) (mUn (fun d => some (.bl (isN d))) (mBin ixD (mVarT 3) (mC (.int 4))))) E).bind blOf) (mRet (mC (.bl false))) mNext)
            (mSeq (mIfS (mAnd (fun E => ((mBin ixD (mVarT 3) (mC (.int 3))) E).map (fun d => !isN d)) (fun E => ((mBin (intOp fun i j => .bl (decide (j < i))) (mBin ixD (mVarT 3) (mC (.int 3))) (mBin ixD (mVarT 3) (mC (.int 4)))) E).bind blOf)) (mRet (mC (.bl false))) mNext)
            (mSeq parB (mApp 1 (mBin ixD (mVarT 3) (mC (.int 0)))))))) (envL (shapeD cs xs leap) (nmS es) j x s4 s5 .un) := by
          subst hmb
          refine seq_nx _ ?_
          show ((((ixD (shapeD cs xs leap) (.int 1)).bind fun d => ixD d (.int j)).map fun d => Out.nx _) : Option Out) = _
          rw [j1]
          show ((ixD (.lst (xs.map encS)) (.int j)).map _) = _
          rw [g0]
          rfl
        have val : (spOk (nmK cs) es x = true → (∃ s4' s5', mb [.fz (shapeD cs xs leap), .ow ((nmS es).map .str), .fz (.int j), s3, s4, s5, .un] = some (.nx (envL (shapeD cs xs leap) (nmS (es ++ [x])) j x s4' s5' .un))) ∧ evenS x) ∧ (spOk (nmK cs) es x = false → mb [.fz (shapeD cs xs leap), .ow ((nmS es).map .str), .fz (.int j), s3, s4, s5, .un] = some (.rt (.bl false))) := by
          rw [red, stepS (lc1 hl hn (hxl x hxm))]
          unfold spOk
          cases q1 : isName x.n with
          | false => simp
          | true =>
            by_cases q2 : x.n ∈ nmS es
            · simp [q2]
            · by_cases q3 : x.c ∈ nmK cs
              · rw [if_neg (by simp [q2, q3]), stepS lc2]
                by_cases q5 : x.s.isNone = x.e.isNone
                · rw [decide_eq_true q5, if_neg (by simp), stepS (lc3 q5)]
                  by_cases q6 : (ok3 x) = true
                  · have e6 : (bad3 x) = false := by rw [bad_ok, q6]; rfl
                    rw [e6, q6, if_neg Bool.false_ne_true]
                    rcases lcP (cs := cs) (xs := xs) (leap := leap) (k := j) (s4 := s4) (s5 := s5) (s6 := .un) (es := es) (x := x) q5 hw hsub (by omega) with ⟨c1, s4', s5', p1⟩ | ⟨c1, p1⟩
                    · rw [seq_nx _ p1]
                      rw [Bool.and_eq_true] at c1
                      refine ⟨fun _ => ⟨⟨s4', s5', ?_⟩, q5⟩, fun z => ?_⟩
                      · have i0 : ixD (encS x) (.int 0) = some (.str x.n) := rfl
                        have nl : (nmS es).length < 100000 := by unfold nmS; rw [List.length_map]; omega
                        unfold envL
                        simp [-ixD, i0, nl, nmS]
                        omega
                      · rw [c1.1, c1.2] at z
                        simp [q2, q3] at z
                    · rw [seq_rt p1]
                      refine ⟨fun z => ?_, fun _ => rfl⟩
                      exfalso
                      simp only [Bool.and_eq_true] at z
                      rw [z.2.2.2.1, z.2.2.2.2.2.2] at c1
                      cases c1
                  · have e6 : (bad3 x) = true := by rw [bad_ok, Bool.not_eq_true _ |>.mp q6]; rfl
                    rw [e6]
                    rw [Bool.not_eq_true] at q6
                    rw [q6]
                    simp
                · simp [q5]
              · simp [q3]
        refine ⟨fun s' hs => ?_, fun hs => ?_⟩
        · unfold stS at hs
          obtain ⟨hk, rfl⟩ := ite_some hs
          obtain ⟨⟨s4', s5', v1⟩, ev⟩ := val.1 hk
          refine ⟨_, v1, ⟨_, _, _, _, rfl⟩, ?_, fun u hu => ?_⟩
          · rw [hes, List.take_add_one, hx0]
            rfl
          · rcases List.mem_append.mp hu with z | z
            · exact hw u z
            · rw [List.mem_singleton.mp z]
              exact ev
        · refine val.2 ?_
          cases q : spOk (nmK cs) es x with
          | false => rfl
          | true =>
            unfold stS at hs
            rw [if_pos q] at hs
            cases hs
      rw [foldO_zip, zip_range] at key
      have q3 : (xs.length : Int) ≤ 100000 := by omega
      have q4 : (-100000 : Int) ≤ (xs.length : Int) := by omega
      unfold goodS
      cases hf : foldO (stS (nmK cs)) [] xs with
      | some es =>
        obtain ⟨E', k1, ⟨_, _, _, _, rfl⟩, _⟩ := key.1 es hf
        simp [-ixD, j0, j1, j2, gk, q2, q3, q4, k1]
      | none =>
        have k1 := key.2 hf
        simp [-ixD, j0, j1, j2, gk, q2, q3, q4, k1]
    · rw [decide_eq_false q2]
      by_cases z : 0 ≤ leap
      · have z2 : ¬ leap ≤ 1000000 := fun w => q2 ⟨z, w⟩
        simp [-ixD, j0, j2, gk, z, z2]
      · simp [-ixD, j0, j2, gk, z]
end Sx

set_option Elab.async false
set_option linter.all false
set_option maxRecDepth 100000
set_option maxHeartbeats 4000000
namespace Sx
open PySem L2
/-! ### where events lie -/
def numN : List Str → Str → Option Nat
  | [], _ => none
  | n :: ns, s => if n = s then some 0 else (numN ns s).map (· + 1)
def own (ns : List Str) (c : Str) : Int := 1 + ((numN ns c).getD 0 : Nat)
theorem numN_mem : ∀ {ns : List Str} {s : Str}, s ∈ ns → ∃ j, numN ns s = some j ∧ ns[j]? = some s ∧ ∀ i < j, ns[i]? ≠ some s
  | n :: ns, s, h => by
    unfold numN
    by_cases e : n = s
    · rw [if_pos e]
      exact ⟨0, rfl, by rw [e]; rfl, fun i hi => by omega⟩
    · rw [if_neg e]
      rcases List.mem_cons.mp h with z | z
      · exact absurd z.symm e
      · obtain ⟨j, h1, h2, h3⟩ := numN_mem z
        refine ⟨j + 1, by rw [h1]; rfl, by simpa using h2, fun i hi => ?_⟩
        cases i with
        | zero => exact fun w => e (by simpa using w)
        | succ i => simpa using h3 i (by omega)
theorem num_ok {ns : List Str} {s : Str} (hl : ns.length ≤ 100000) (h : s ∈ ns) : m__law_number_of [.lst (ns.map .str), .str s] = some (.int (own ns s - 1)) := by
  obtain ⟨r, h1, h2⟩ := number_of_ok s hl
  obtain ⟨j, g1, g2, g3⟩ := numN_mem h
  rcases h2 with ⟨_, z⟩ | ⟨j', rfl, k2, k3⟩
  · exact absurd h z
  · have : j' = j := by
      rcases Nat.lt_trichotomy j' j with z | z | z
      · exact absurd k2 (g3 j' z)
      · exact z
      · exact absurd g2 (k3 j z)
    rw [h1, this]
    unfold own
    rw [g1]
    show some (D.int _) = some (D.int _)
    congr 2
    simp
    omega
def adv (q : Int) (x : Spn) : Int := match x.s, x.e with
  | some _, some _ => q
  | _, _ => q + 2
def plc1 (ns : List Str) (q : Int) (x : Spn) : List (Int × Int) := match x.s, x.e with
  | some a, some b => [(own ns x.c, a), (own ns x.c, b)]
  | _, _ => [(q, 0), (q + 1, 0)]
def plc (ns : List Str) : Int → List Spn → List (Int × Int)
  | _, [] => []
  | q, x :: xs => plc1 ns q x ++ plc ns (adv q x) xs
def fin : Int → List Spn → Int
  | q, [] => q
  | q, x :: xs => fin (adv q x) xs
theorem plc_app (ns : List Str) : ∀ (xs ys : List Spn) (q : Int), plc ns q (xs ++ ys) = plc ns q xs ++ plc ns (fin q xs) ys
  | [], ys, q => rfl
  | x :: xs, ys, q => by
    show plc1 ns q x ++ plc ns (adv q x) (xs ++ ys) = (plc1 ns q x ++ plc ns (adv q x) xs) ++ plc ns (fin (adv q x) xs) ys
    rw [plc_app ns xs ys, List.append_assoc]
theorem fin_app : ∀ (xs ys : List Spn) (q : Int), fin q (xs ++ ys) = fin (fin q xs) ys
  | [], ys, q => rfl
  | x :: xs, ys, q => fin_app xs ys (adv q x)
theorem plc1_len (ns : List Str) (q : Int) (x : Spn) : (plc1 ns q x).length = 2 := by
  unfold plc1
  split <;> rfl
theorem adv_le (q : Int) (x : Spn) : q ≤ adv q x ∧ adv q x ≤ q + 2 := by
  unfold adv
  split <;> omega
theorem plc_len (ns : List Str) : ∀ (xs : List Spn) (q : Int), (plc ns q xs).length = 2 * xs.length
  | [], q => rfl
  | x :: xs, q => by
    show (plc1 ns q x ++ plc ns (adv q x) xs).length = _
    rw [List.length_append, plc1_len, plc_len ns xs, List.length_cons]
    omega
theorem fin_le : ∀ (xs : List Spn) (q : Int), q ≤ fin q xs ∧ fin q xs ≤ q + 2 * xs.length
  | [], q => by simp [fin]
  | x :: xs, q => by
    have h1 := fin_le xs (adv q x)
    have h2 := adv_le q x
    rw [List.length_cons]
    show q ≤ fin (adv q x) xs ∧ fin (adv q x) xs ≤ _
    omega
def encP (p : Int × Int) : D := .tup [.int p.1, .int p.2]
def evK (xs : List Spn) : List (List Key) := xs.flatMap fun x => [[.inr x.n, .inr "start"], [.inr x.n, .inr "end"]]
theorem evK_mem {xs : List Spn} {n s : Str} (h : [(Sum.inr n : Key), Sum.inr s] ∈ evK xs) : n ∈ nmS xs := by
  unfold evK at h
  obtain ⟨x, hx, h⟩ := List.mem_flatMap.mp h
  have : n = x.n := by
    simp at h
    rcases h with h | h <;> exact h.1
  rw [this]
  exact List.mem_map_of_mem hx
theorem evK_app (xs ys : List Spn) : evK (xs ++ ys) = evK xs ++ evK ys := by
  unfold evK
  rw [List.flatMap_append]
theorem ne_se : ¬ (("start" : Str) = "end") := by decide +kernel
/-! ### what a good list of spans tells -/
theorem fold_facts {ns : List Str} : ∀ {xs es r : List Spn}, foldO (stS ns) es xs = some r → r = es ++ xs ∧ ∀ (i : Nat) (x : Spn), xs[i]? = some x → spOk ns (es ++ xs.take i) x = true
  | [], es, r, h => by
    cases h
    exact ⟨by simp, fun i x e => by simp at e⟩
  | y :: xs, es, r, h => by
    obtain ⟨es1, h1, h2⟩ := bind_some (show (stS ns es y).bind (fun s' => foldO (stS ns) s' xs) = some r from h)
    unfold stS at h1
    obtain ⟨hk, rfl⟩ := ite_some h1
    obtain ⟨e1, e2⟩ := fold_facts h2
    refine ⟨by rw [e1]; simp, fun i x e => ?_⟩
    cases i with
    | zero =>
      have e : y = x := by simpa using e
      subst e
      simpa using hk
    | succ i =>
      have := e2 i x (by simpa using e)
      simpa using this
structure OkS (ns : List Str) (es : List Spn) (x : Spn) : Prop where
  nm : isName x.n = true
  new : x.n ∉ nmS es
  clk : x.c ∈ ns
  par : ∀ p, x.p = some p → p ∈ nmS es
  even : evenS x
theorem okS_of {ns : List Str} {es : List Spn} {x : Spn} (h : spOk ns es x = true) : OkS ns es x := by
  unfold spOk at h
  simp only [Bool.and_eq_true] at h
  obtain ⟨h1, h2, h3, h4, h5, _, _⟩ := h
  refine ⟨h1, ?_, of_decide_eq_true h3, fun p e => ?_, (show x.s.isNone = x.e.isNone from of_decide_eq_true h5)⟩
  · intro z
    rw [decide_eq_true z] at h2
    cases h2
  · unfold parIn at h4
    rw [e] at h4
    exact of_decide_eq_true h4
theorem goodS_at {ns : List Str} {xs : List Spn} (h : goodS ns xs = true) {i : Nat} {x : Spn} (e : xs[i]? = some x) : OkS ns (xs.take i) x := by
  unfold goodS at h
  obtain ⟨r, hr⟩ := Option.isSome_iff_exists.mp h
  have := (fold_facts hr).2 i x e
  rw [List.nil_append] at this
  exact okS_of this
/-! ### the dict of clocks -/
def numV (n : Nat) : List D := (List.range n).map fun (i : Nat) => .int ((i : Int) + 1)
theorem atK_num : ∀ (ns : List Str) (c : Str) (k : Int), atK (ns.map (Sum.inr : Str → Key)) ((List.range ns.length).map fun (i : Nat) => D.int (k + (i : Int) + 1)) (Sum.inr c) = (numN ns c).map fun (j : Nat) => D.int (k + (j : Int) + 1)
  | [], c, k => rfl
  | n :: ns, c, k => by
    rw [List.length_cons, List.range_succ_eq_map, List.map_cons, List.map_cons, List.map_map]
    unfold atK numN
    by_cases e : n = c
    · rw [if_pos (by rw [e]), if_pos e]
      rfl
    · rw [if_neg (fun z => e (Sum.inr.inj z)), if_neg e]
      have ih := atK_num ns c (k + 1)
      have e2 : ((fun (i : Nat) => D.int (k + (i : Int) + 1)) ∘ Nat.succ) = fun (i : Nat) => D.int (k + 1 + (i : Int) + 1) := by
        funext i
        show D.int (k + ((i + 1 : Nat) : Int) + 1) = _
        congr 1
        omega
      rw [e2, ih, Option.map_map]
      congr 1
      funext j
      show D.int (k + 1 + (j : Int) + 1) = D.int (k + ((j + 1 : Nat) : Int) + 1)
      congr 1
      omega
theorem num_at {ns : List Str} {c : Str} (h : c ∈ ns) : ixD2 (.dct (.k (ns.map Sum.inr)) (numV ns.length)) (.str c) = some (.int (own ns c)) := by
  obtain ⟨j, h1, _⟩ := numN_mem h
  have := atK_num ns c 0
  rw [h1] at this
  have e : numV ns.length = (List.range ns.length).map fun (i : Nat) => D.int (0 + (i : Int) + 1) := by
    unfold numV
    congr 1
    funext i
    congr 1
    omega
  show (some (atK (ns.map Sum.inr) (numV ns.length) (Sum.inr c))).bind id = _
  rw [e, this]
  unfold own
  rw [h1]
  show some (D.int _) = some (D.int _)
  congr 2
  simp
  omega
theorem numV_succ (n : Nat) : numV (n + 1) = numV n ++ [.int ((n : Int) + 1)] := by
  unfold numV
  rw [List.range_succ, List.map_append]
  rfl
end Sx

set_option Elab.async false
set_option linter.all false
set_option maxRecDepth 100000
set_option maxHeartbeats 4000000
namespace Sx
open PySem L2
abbrev fsT : List Str := ["clocks", "spans", "hop", "points", "events"]
def traceD (cs : List Ck) (xs : List Spn) (hop : Int) : D := .obj "Trace" fsT [.tup (cs.map encK), .tup (xs.map encS), .int hop, .int (fin (1 + (cs.length : Int)) xs), .dct (.t (evK xs)) ((plc (nmK cs) (1 + (cs.length : Int)) xs).map encP)]
theorem fld_nx {i n : Nat} {q : Option Addr} {c f : Str} {fs : List Str} {rs : List R} {m : En → Option D} {E : En} {d : D} (hm : m E = some d) (h0 : E[i]? = some (.rt (.rf n))) (hn : E[n]? = some (.nd (.obj q c fs rs))) (hf : f ∉ fs ∧ fs.length < 900) : mFld i c f m E = some (.nx (E.set n (.nd (.obj q c (fs ++ [f]) (rs ++ [.fz d]))))) := by
  unfold mFld
  rw [hm]
  dsimp only [Option.bind_some]
  rw [h0]
  dsimp only
  rw [hn]
  dsimp only
  rw [if_pos ⟨rfl, hf.1, hf.2⟩]
theorem drop_ok {m : En → Option RX} {r : En → Option OutX} {E : En} {d : D} (h : m E = some (.ok d)) : mSeqX (mDropX m) r E = r E := by
  show ((m E).map _).bind _ = _
  rw [h]
  rfl
theorem drop_ex {m : En → Option RX} {r : En → Option OutX} {E : En} {x : Str} (h : m E = some (.ex x)) : mSeqX (mDropX m) r E = some (.ex x E) := by
  show ((m E).map _).bind _ = _
  rw [h]
  rfl
def valP (ps : List (Int × Int)) : List R := (ps.map encP).map R.fz
theorem closeds_valP (ps : List (Int × Int)) : closeds (valP ps) = some (ps.map encP) := closeds_fz _
def obT (a : Addr) (cs : List Ck) (xs : List Spn) (hop pts : Int) : Sl := .nd (.obj (some a) "Trace" fsT [.fz (.tup (cs.map encK)), .fz (.tup (xs.map encS)), .fz (.int hop), .fz (.int pts), .rf 16])
def dcT (ks : List (List Key)) (ps : List (Int × Int)) : Sl := .nd (.dct (.t ks) (valP ps))
def numD (cs : List Ck) : D := .dct (.k ((nmK cs).map Sum.inr)) (numV cs.length)
section
variable {a : Addr} {cs : List Ck} {xs es : List Spn} {hop pts : Int} {ks : List (List Key)} {ps : List (Int × Int)} {n side : Str} {s6 s8 s9 s12 s13 s14 : Sl} {c : Str} {sh : D}
def enT (a : Addr) (cs : List Ck) (xs : List Spn) (hop pts : Int) (ks : List (List Key)) (ps : List (Int × Int)) (s5 s6 s7 s8 s9 s10 s11 s12 s13 s14 : Sl) : En := [.rt (.rf 15), .fz (.lst (cs.map encK)), .fz (.lst (xs.map encS)), .fz (.int hop), .fz (numD cs), s5, s6, s7, s8, s9, s10, s11, s12, s13, s14, obT a cs xs hop pts, dcT ks ps]
theorem put_ev {n side : Str} {p : Int × Int} (h : [(Sum.inr n : Key), Sum.inr side] ∉ ks) : putKS (.t ks) (valP ps) (.tup [.str n, .str side]) (.fz (encP p)) = some (.t (ks ++ [[.inr n, .inr side]]), valP (ps ++ [p])) := by
  show some (KS.t (putKey ks [.inr n, .inr side]), putVal ks (valP ps) [.inr n, .inr side] (.fz (encP p))) = _
  unfold putKey putVal valP
  rw [if_neg h, if_neg h]
  simp
theorem fdput_nx {m mk : En → Option D} {s5 s7 s10 s11 : Sl} {p : Int × Int} (hm : m (enT a cs xs hop pts ks ps s5 s6 s7 s8 s9 s10 s11 s12 s13 s14) = some (encP p)) (hk : mk (enT a cs xs hop pts ks ps s5 s6 s7 s8 s9 s10 s11 s12 s13 s14) = some (.tup [.str n, .str side])) (h : [(Sum.inr n : Key), Sum.inr side] ∉ ks) (hl : ps.length < 100000) :
    mFDPut 0 "Trace" "events" m mk (enT a cs xs hop pts ks ps s5 s6 s7 s8 s9 s10 s11 s12 s13 s14) = some (.nx (enT a cs xs hop pts (ks ++ [[.inr n, .inr side]]) (ps ++ [p]) s5 s6 s7 s8 s9 s10 s11 s12 s13 s14)) := by
  unfold mFDPut
  rw [hm, hk]
  dsimp only [Option.bind_some]
  show ((putKS (.t ks) (valP ps) (.tup [.str n, .str side]) (.fz (encP p))).bind fun res => if ("Trace" : Str) = "Trace" ∧ (valP ps).length < 100000 then some (Out.nx _) else none) = _
  rw [put_ev h]
  dsimp only [Option.bind_some]
  rw [if_pos ⟨rfl, by unfold valP; simp; exact hl⟩]
  rfl
theorem pts_val {s5 s7 s10 s11 : Sl} : mFldE 0 "Trace" "points" (enT a cs xs hop pts ks ps s5 s6 s7 s8 s9 s10 s11 s12 s13 s14) = some (.int pts) := rfl
theorem sps_val {s5 s7 s10 s11 : Sl} : mFldE 0 "Trace" "spans" (enT a cs xs hop pts ks ps s5 s6 s7 s8 s9 s10 s11 s12 s13 s14) = some (.tup (xs.map encS)) := rfl
theorem pts_aug {s5 s7 s10 s11 : Sl} : mFldAug (fun i j => i + j) 0 "Trace" "points" (mC (.int 1)) (enT a cs xs hop pts ks ps s5 s6 s7 s8 s9 s10 s11 s12 s13 s14) = some (.nx (enT a cs xs hop (pts + 1) ks ps s5 s6 s7 s8 s9 s10 s11 s12 s13 s14)) := rfl
/-- the inner loop's body -/
def evB : En → Option Out := mIfS (fun E => ((mVarT 11) E).map isN) (mSeq (mFDPut 0 "Trace" "events" (mTup (mCons (mFldE 0 "Trace" "points") (mCons (mC (.int 0)) mNil))) (mTup (mCons (mVar 5) (mCons (mVar 10) mNil))))
      (mFldAug (fun i j => i + j) 0 "Trace" "points" (mC (.int 1)))) (mFDPut 0 "Trace" "events" (mTup (mCons (mBin ixD2 (mVarT 4) (mVarT 7)) (mCons (mVar 11) mNil))) (mTup (mCons (mVar 5) (mCons (mVar 10) mNil))))
theorem ev_non (h : [(Sum.inr n : Key), Sum.inr side] ∉ ks) (hl : ps.length < 100000) : evB (enT a cs xs hop pts ks ps (.fz (.str n)) s6 (.fz (.str c)) s8 s9 (.fz (.str side)) (.fz .non) s12 s13 s14) = some (.nx (enT a cs xs hop (pts + 1) (ks ++ [[.inr n, .inr side]]) (ps ++ [(pts, 0)]) (.fz (.str n)) s6 (.fz (.str c)) s8 s9 (.fz (.str side)) (.fz .non) s12 s13 s14)) := by
  show mSeq _ _ _ = _
  rw [seq_nx _ (fdput_nx (p := (pts, 0)) rfl rfl h hl)]
  exact pts_aug
theorem ev_int {i : Int} (hc : c ∈ nmK cs) (h : [(Sum.inr n : Key), Sum.inr side] ∉ ks) (hl : ps.length < 100000) : evB (enT a cs xs hop pts ks ps (.fz (.str n)) s6 (.fz (.str c)) s8 s9 (.fz (.str side)) (.fz (.int i)) s12 s13 s14) = some (.nx (enT a cs xs hop pts (ks ++ [[.inr n, .inr side]]) (ps ++ [(own (nmK cs) c, i)]) (.fz (.str n)) s6 (.fz (.str c)) s8 s9 (.fz (.str side)) (.fz (.int i)) s12 s13 s14)) := by
  have nl : (nmK cs).length = cs.length := List.length_map ..
  have g := num_at hc
  rw [nl] at g
  have red : evB (enT a cs xs hop pts ks ps (.fz (.str n)) s6 (.fz (.str c)) s8 s9 (.fz (.str side)) (.fz (.int i)) s12 s13 s14) = mFDPut 0 "Trace" "events" (mTup (mCons (mBin ixD2 (mVarT 4) (mVarT 7)) (mCons (mVar 11) mNil))) (mTup (mCons (mVar 5) (mCons (mVar 10) mNil))) (enT a cs xs hop pts ks ps (.fz (.str n)) s6 (.fz (.str c)) s8 s9 (.fz (.str side)) (.fz (.int i)) s12 s13 s14) := rfl
  rw [red]
  refine fdput_nx (p := (own (nmK cs) c, i)) ?_ rfl h hl
  show ((ixD2 (numD cs) (.str c)).bind _).bind _ = _
  unfold numD
  rw [g]
  rfl
/-- one span -/
theorem span_ev {x : Spn} {s5 s7 s10 s11 : Sl} (hx : evenS x) (hc : x.c ∈ nmK cs) (hn : x.n ∉ nmS (es : List Spn)) (hl : ps.length + 2 < 100000) :
    ∃ s10' s11', runFor (gTupM 2 (gsCons (gM 10) (gsCons (gM 11) gsNil))) evB (zipD ((["start", "end"] : List Str).map .str) [oI x.s, oI x.e]) (enT a cs xs hop pts (evK es) ps (.fz (.str x.n)) s6 (.fz (.str x.c)) s8 s9 s10 s11 s12 s13 s14) =
      some (.nx (enT a cs xs hop (adv pts x) (evK (es ++ [x])) (ps ++ plc1 (nmK cs) pts x) (.fz (.str x.n)) s6 (.fz (.str x.c)) s8 s9 s10' s11' s12 s13 s14)) := by
  have k1 : [(Sum.inr x.n : Key), Sum.inr "start"] ∉ evK es := fun z => hn (evK_mem z)
  have k2 : [(Sum.inr x.n : Key), Sum.inr "end"] ∉ evK es ++ [[.inr x.n, .inr "start"]] := fun z => by
    rcases List.mem_append.mp z with z | z
    · exact hn (evK_mem z)
    · have := List.mem_singleton.mp z
      simp at this
      exact ne_se this.symm
  have ke : evK (es ++ [x]) = (evK es ++ [[.inr x.n, .inr "start"]]) ++ [[.inr x.n, .inr "end"]] := by
    rw [evK_app, List.append_assoc]
    rfl
  have zd : zipD ((["start", "end"] : List Str).map .str) [oI x.s, oI x.e] = [.tup [.str "start", oI x.s], .tup [.str "end", oI x.e]] := rfl
  rw [zd, ke]
  unfold evenS at hx
  unfold adv plc1
  cases hs : x.s <;> cases he : x.e <;> rw [hs, he] at hx <;> simp at hx
  · refine ⟨.fz (.str "end"), .fz .non, ?_⟩
    unfold runFor
    show ((evB (enT a cs xs hop pts (evK es) ps (.fz (.str x.n)) s6 (.fz (.str x.c)) s8 s9 (.fz (.str "start")) (.fz .non) s12 s13 s14)).bind _) = _
    rw [ev_non k1 (by omega)]
    unfold runFor
    show ((evB (enT a cs xs hop (pts + 1) (evK es ++ [[.inr x.n, .inr "start"]]) (ps ++ [(pts, 0)]) (.fz (.str x.n)) s6 (.fz (.str x.c)) s8 s9 (.fz (.str "end")) (.fz .non) s12 s13 s14)).bind _) = _
    rw [ev_non k2 (by rw [List.length_append]; simp; omega)]
    unfold runFor
    dsimp only [Option.bind_some]
    rw [List.append_assoc ps, Int.add_assoc]
    rfl
  · rename_i i j
    refine ⟨.fz (.str "end"), .fz (.int j), ?_⟩
    unfold runFor
    show ((evB (enT a cs xs hop pts (evK es) ps (.fz (.str x.n)) s6 (.fz (.str x.c)) s8 s9 (.fz (.str "start")) (.fz (.int i)) s12 s13 s14)).bind _) = _
    rw [ev_int hc k1 (by omega)]
    unfold runFor
    show ((evB (enT a cs xs hop pts (evK es ++ [[.inr x.n, .inr "start"]]) (ps ++ [(own (nmK cs) x.c, i)]) (.fz (.str x.n)) s6 (.fz (.str x.c)) s8 s9 (.fz (.str "end")) (.fz (.int j)) s12 s13 s14)).bind _) = _
    rw [ev_int hc k2 (by rw [List.length_append]; simp; omega)]
    unfold runFor
    dsimp only [Option.bind_some]
    rw [List.append_assoc ps]
    rfl
end
end Sx

set_option Elab.async false
set_option linter.all false
set_option maxRecDepth 100000
set_option maxHeartbeats 4000000
namespace Sx
open PySem L2
theorem num_dc {E0 : En} {me : En → D → Option En} {mk mv : En → Option D} (hs : ∀ (c : Ck) (i : Int), ∃ E1, me E0 (.tup [.int i, encK c]) = some E1 ∧ mk E1 = some (.str c.1) ∧ mv E1 = some (.int (i + 1))) : ∀ (cs pre : List Ck), (nmK (pre ++ cs)).Nodup →
    runDc me mYes mk mv E0 (enumD pre.length (cs.map encK)) ((nmK pre).map Sum.inr) (numV pre.length) = some ((nmK (pre ++ cs)).map Sum.inr, numV (pre ++ cs).length)
  | [], pre, _ => by
    rw [List.append_nil]
    rfl
  | c :: cs, pre, nd => by
    obtain ⟨E1, h1, h2, h3⟩ := hs c pre.length
    have hn : (Sum.inr c.1 : Key) ∉ (nmK pre).map (Sum.inr : Str → Key) := fun z => by
      have z' : c.1 ∈ nmK pre := by simpa using z
      have nd' : (nmK pre ++ nmK (c :: cs)).Nodup := by
        have : nmK (pre ++ c :: cs) = nmK pre ++ nmK (c :: cs) := List.map_append ..
        rw [← this]
        exact nd
      rw [List.nodup_append] at nd'
      exact nd'.2.2 _ z' c.1 (List.mem_cons_self ..) rfl
    have red : runDc me mYes mk mv E0 (enumD pre.length ((c :: cs).map encK)) ((nmK pre).map Sum.inr) (numV pre.length) = runDc me mYes mk mv E0 (enumD (pre.length + 1) (cs.map encK)) (putKey ((nmK pre).map Sum.inr) (Sum.inr c.1)) (putVal ((nmK pre).map (Sum.inr : Str → Key)) (numV pre.length) (Sum.inr c.1) (.int ((pre.length : Int) + 1))) := by
      show ((me E0 (.tup [.int (pre.length : Int), encK c])).bind fun E1 => (mYes E1).bind fun b => if b = true then (mk E1).bind fun a => (keyD a).bind fun κ => (mv E1).bind fun v => runDc me mYes mk mv E0 (enumD (pre.length + 1) (cs.map encK)) (putKey ((nmK pre).map Sum.inr) κ) (putVal ((nmK pre).map Sum.inr) (numV pre.length) κ v) else _) = _
      rw [h1]
      dsimp only [Option.bind_some, mYes]
      rw [if_pos rfl, h2]
      dsimp only [Option.bind_some]
      rw [h3]
      rfl
    rw [red]
    have pl : (pre ++ [c]).length = pre.length + 1 := by rw [List.length_append]; rfl
    have ek : putKey ((nmK pre).map (Sum.inr : Str → Key)) (Sum.inr c.1) = (nmK (pre ++ [c])).map Sum.inr := by
      unfold putKey
      rw [if_neg hn]
      unfold nmK
      simp
    have ev : putVal ((nmK pre).map (Sum.inr : Str → Key)) (numV pre.length) (Sum.inr c.1) (D.int ((pre.length : Int) + 1)) = numV (pre ++ [c]).length := by
      unfold putVal
      rw [if_neg hn, pl, numV_succ]
    have ea : pre ++ c :: cs = (pre ++ [c]) ++ cs := by simp
    rw [ek, ev, ea, ← pl]
    exact num_dc hs cs (pre ++ [c]) (by rw [← ea]; exact nd)
theorem comp_same {α : Type} {f : α → D} {me : En → D → Option En} {mv : En → Option D} {E0 : En} (xs : List α) (h : ∀ x ∈ xs, ∃ E1, me E0 (f x) = some E1 ∧ mv E1 = some (f x)) : runComp me mYes mv E0 (xs.map f) = some (xs.map f) := by
  obtain ⟨ys, c1, c2⟩ := runComp_enc (mg := me) (mt := mYes) (me := mv) (E0 := E0) f f (fun a b => b = a) xs fun x hx => by
    obtain ⟨E1, h1, h2⟩ := h x hx
    exact ⟨E1, x, h1, rfl, h2, rfl⟩
  rw [c1, Paired.fn c2]
  simp
theorem mComp_at {vs : List Nat} {mi : En → Option (List D)} {mg : En → D → Option En} {me : En → Option D} {E : En} {ds rs : List D} (h : mi E = some ds) (hl : ds.length ≤ 100000) (hr : runComp mg mYes me (wipeE E vs) ds = some rs) : mComp vs mi mg mYes me E = some rs := by
  show (mi E).bind _ = _
  rw [h]
  dsimp only [Option.bind_some]
  rw [if_pos hl]
  exact hr
theorem goodK_nd {cs : List Ck} (h : goodK cs = true) : (nmK cs).Nodup ∧ 1 ≤ cs.length ∧ cs.length ≤ 6 := by
  unfold goodK at h
  simp only [Bool.and_eq_true, decide_eq_true_eq] at h
  exact ⟨h.2.2, h.1⟩
def en0 (cs : List Ck) (xs : List Spn) (hop : Int) (s4 ob dd : Sl) : En := [.rt (.rf 15), .fz (.lst (cs.map encK)), .fz (.lst (xs.map encS)), .fz (.int hop), s4, .un, .un, .un, .un, .un, .un, .un, .un, .un, .un, ob, dd]
abbrev obN (a : Addr) (fs : List Str) (rs : List R) : Sl := .nd (.obj (some a) "Trace" fs rs)
theorem callX_at {n : Nat} {m : List D → Option RX} {a : En → Option (List D)} {E : En} {ds : List D} (h : a E = some ds) (hl : ds.length = n) : mCallX n m a E = m ds := by
  show (a E).bind _ = _
  rw [h]
  dsimp only [Option.bind_some]
  rw [if_pos hl]
theorem init_ok {cs : List Ck} {xs : List Spn} {hop : Int} (h : shortK cs) (hx : shortS xs) (a : Addr) :
    (goodAll cs xs hop = true → ∃ s5 s6 s7 s8 s9 s10 s11, b_init_Trace (en0 cs xs hop .un (obN a [] []) .un) = some (.o (.nx (enT a cs xs hop (fin (1 + (cs.length : Int)) xs) (evK xs) (plc (nmK cs) (1 + (cs.length : Int)) xs) s5 s6 s7 s8 s9 s10 s11 .un .un .un)))) ∧
    (goodAll cs xs hop = false → ∃ E, b_init_Trace (en0 cs xs hop .un (obN a [] []) .un) = some (.ex "BadTrace" E)) := by
  have ck := check_clocks_ok h
  have sk := check_spans_ok h hx
  obtain ⟨hn, hl⟩ := h
  obtain ⟨hxn, hxl⟩ := hx
  have lk : (cs.map encK).length ≤ 100000 := by rw [List.length_map]; omega
  have ls : (xs.map encS).length ≤ 100000 := by rw [List.length_map]; omega
  have v1 : (mUn tupleD (mList (mComp [5, 14] (fun E => ((mVarT 1) E).bind lstOf) (gTupM 2 (gsCons (gM 5) (gsCons (gM 14) gsNil))) mYes (mTup (mCons (mVar 5) (mCons (mVar 14) mNil)))))) (en0 cs xs hop .un (obN a [] []) .un) = some (.tup (cs.map encK)) := by
    have c1 : mComp [5, 14] (fun E => ((mVarT 1) E).bind lstOf) (gTupM 2 (gsCons (gM 5) (gsCons (gM 14) gsNil))) mYes (mTup (mCons (mVar 5) (mCons (mVar 14) mNil))) (en0 cs xs hop .un (obN a [] []) .un) = some (cs.map encK) :=
      mComp_at (ds := cs.map encK) rfl lk (comp_same cs fun c _ => ⟨_, rfl, rfl⟩)
    show ((mComp _ _ _ _ _ _).map D.lst).bind tupleD = _
    rw [c1]
    rfl
  have v2 : (mUn tupleD (mList (mComp [12] (fun E => ((mVarT 2) E).bind lstOf) (gM 12) mYes (mUn tupleD (mVarT 12))))) (en0 cs xs hop .un (obN a ["clocks"] [.fz (.tup (cs.map encK))]) .un) = some (.tup (xs.map encS)) := by
    have c2 : mComp [12] (fun E => ((mVarT 2) E).bind lstOf) (gM 12) mYes (mUn tupleD (mVarT 12)) (en0 cs xs hop .un (obN a ["clocks"] [.fz (.tup (cs.map encK))]) .un) = some (xs.map encS) :=
      mComp_at (ds := xs.map encS) rfl ls (comp_same xs fun c _ => ⟨_, rfl, rfl⟩)
    show ((mComp _ _ _ _ _ _).map D.lst).bind tupleD = _
    rw [c2]
    rfl
  unfold b_init_Trace
  rw [seqO_nx (E1 := en0 cs xs hop .un (obN a ["clocks"] [.fz (.tup (cs.map encK))]) .un) (fld_nx (n := 15) (q := some a) (f := "clocks") (fs := []) (rs := []) v1 rfl rfl (by decide +kernel))]
  rw [seqO_nx (E1 := en0 cs xs hop .un (obN a ["clocks", "spans"] [.fz (.tup (cs.map encK)), .fz (.tup (xs.map encS))]) .un) (fld_nx (n := 15) (q := some a) (f := "spans") (fs := ["clocks"]) (rs := [.fz (.tup (cs.map encK))]) v2 rfl rfl (by decide +kernel))]
  rw [seqO_nx (E1 := en0 cs xs hop .un (obN a ["clocks", "spans", "hop"] [.fz (.tup (cs.map encK)), .fz (.tup (xs.map encS)), .fz (.int hop)]) .un) (fld_nx (n := 15) (q := some a) (f := "hop") (fs := ["clocks", "spans"]) (rs := [.fz (.tup (cs.map encK)), .fz (.tup (xs.map encS))]) (d := .int hop) rfl rfl rfl (by decide +kernel))]
  unfold goodAll
  cases q1 : goodK cs with
  | false =>
    rw [q1] at ck
    refine ⟨fun z => (by cases z), fun _ => ⟨en0 cs xs hop .un (obN a ["clocks", "spans", "hop"] [.fz (.tup (cs.map encK)), .fz (.tup (xs.map encS)), .fz (.int hop)]) .un, ?_⟩⟩
    exact drop_ex (x := "BadTrace") (by rw [callX_at (n := 1) (ds := [.tup (cs.map encK)]) rfl rfl]; exact ck)
  | true =>
    rw [q1] at ck
    rw [drop_ok (d := .non) (by rw [callX_at (n := 1) (ds := [.tup (cs.map encK)]) rfl rfl]; exact ck)]
    cases q2 : goodS (nmK cs) xs with
    | false =>
      rw [q2] at sk
      refine ⟨fun z => (by simp at z), fun _ => ⟨en0 cs xs hop .un (obN a ["clocks", "spans", "hop"] [.fz (.tup (cs.map encK)), .fz (.tup (xs.map encS)), .fz (.int hop)]) .un, ?_⟩⟩
      exact drop_ex (x := "BadTrace") (by rw [callX_at (n := 2) (ds := [.tup (cs.map encK), .tup (xs.map encS)]) rfl rfl]; exact sk)
    | true =>
      rw [q2] at sk
      rw [drop_ok (d := .non) (by rw [callX_at (n := 2) (ds := [.tup (cs.map encK), .tup (xs.map encS)]) rfl rfl]; exact sk)]
      have hc : (mNot (fun E => ((mChain (intOp fun i j => .bl (decide (i ≤ j))) (intOp fun i j => .bl (decide (i ≤ j))) (mC (.int 0)) (mVarT 3) (mC (.int 1000000))) E).bind blOf)) (en0 cs xs hop .un (obN a ["clocks", "spans", "hop"] [.fz (.tup (cs.map encK)), .fz (.tup (xs.map encS)), .fz (.int hop)]) .un) = some (!decide (0 ≤ hop ∧ hop ≤ 1000000)) := by
        unfold en0
        by_cases z : 0 ≤ hop
        · by_cases z2 : hop ≤ 1000000 <;> simp [z, z2]
        · simp [z]
      rw [stepX hc]
      by_cases q3 : 0 ≤ hop ∧ hop ≤ 1000000
      · rw [decide_eq_true q3]
        refine ⟨fun _ => ?_, fun z => (by simp at z)⟩
        rw [if_neg (by simp)]
        obtain ⟨nd, _, _⟩ := goodK_nd q1
        have v3 : (mBin addD (mC (.int 1)) (mUn lenD (mFldE 0 "Trace" "clocks"))) (en0 cs xs hop .un (obN a ["clocks", "spans", "hop"] [.fz (.tup (cs.map encK)), .fz (.tup (xs.map encS)), .fz (.int hop)]) .un) = some (.int (1 + (cs.length : Int))) := by
          show some (D.int (1 + ((cs.map encK).length : Int))) = _
          rw [List.length_map]
        rw [seqO_nx (E1 := en0 cs xs hop .un (obN a ["clocks", "spans", "hop", "points"] [.fz (.tup (cs.map encK)), .fz (.tup (xs.map encS)), .fz (.int hop), .fz (.int (1 + (cs.length : Int)))]) .un) (fld_nx (n := 15) (q := some a) (f := "points") (fs := ["clocks", "spans", "hop"]) (rs := [.fz (.tup (cs.map encK)), .fz (.tup (xs.map encS)), .fz (.int hop)]) v3 rfl rfl (by decide +kernel))]
        have v4 : mFldD 0 16 (.t []) "Trace" "events" (en0 cs xs hop .un (obN a ["clocks", "spans", "hop", "points"] [.fz (.tup (cs.map encK)), .fz (.tup (xs.map encS)), .fz (.int hop), .fz (.int (1 + (cs.length : Int)))]) .un) = some (.nx (en0 cs xs hop .un (obT a cs xs hop (1 + (cs.length : Int))) (dcT [] []))) := rfl
        rw [seqO_nx v4]
        have v5 : mDc [13, 5, 6] (mEnumT (mFldE 0 "Trace" "clocks")) (gTupM 2 (gsCons (gM 13) (gsCons (gTupM 2 (gsCons (gM 5) (gsCons (gM 6) gsNil))) gsNil))) mYes (mVar 5) (mBin addD (mVarT 13) (mC (.int 1))) (en0 cs xs hop .un (obT a cs xs hop (1 + (cs.length : Int))) (dcT [] [])) = some (numD cs) := by
          show (if (enumD 0 (cs.map encK)).length ≤ 100000 then (runDc _ mYes _ _ _ (enumD 0 (cs.map encK)) [] []).map _ else none) = _
          rw [if_pos (by rw [enumD_len]; exact lk)]
          have := num_dc (E0 := wipeE (en0 cs xs hop .un (obT a cs xs hop (1 + (cs.length : Int))) (dcT [] [])) [13, 5, 6]) (me := gTupM 2 (gsCons (gM 13) (gsCons (gTupM 2 (gsCons (gM 5) (gsCons (gM 6) gsNil))) gsNil))) (mk := mVar 5) (mv := mBin addD (mVarT 13) (mC (.int 1))) (fun c i => ⟨_, rfl, rfl, rfl⟩) cs [] nd
          rw [List.nil_append] at this
          show (runDc _ mYes _ _ _ (enumD ([] : List Ck).length (cs.map encK)) ((nmK []).map Sum.inr) (numV ([] : List Ck).length)).map _ = _
          rw [this]
          rfl
        rw [seqO_nx (E1 := enT a cs xs hop (1 + (cs.length : Int)) [] [] .un .un .un .un .un .un .un .un .un .un) (by show (mDc _ _ _ _ _ _ _).map _ = _; rw [v5]; rfl)]
        generalize hmb : mFor (fun E => ((mTup (mCons (mVar 8) (mCons (mVar 9) mNil))) E).bind _) _ _ = mb
        obtain ⟨E', f1, s5, s6, s7, s8, s9, s10, s11, rfl⟩ := runFor_inv (mg := gTupM 5 (gsCons (gM 5) (gsCons (gM 6) (gsCons (gM 7) (gsCons (gM 8) (gsCons (gM 9) gsNil)))))) (mb := mb) (fun j E => ∃ s5 s6 s7 s8 s9 s10 s11, E = enT a cs xs hop (fin (1 + (cs.length : Int)) (xs.take j)) (evK (xs.take j)) (plc (nmK cs) (1 + (cs.length : Int)) (xs.take j)) s5 s6 s7 s8 s9 s10 s11 .un .un .un) (xs.map encS) 0
          (enT a cs xs hop (1 + (cs.length : Int)) [] [] .un .un .un .un .un .un .un .un .un .un) ⟨_, _, _, _, _, _, _, rfl⟩ fun j d E hd hI => by
          obtain ⟨s5, s6, s7, s8, s9, s10, s11, rfl⟩ := hI
          obtain ⟨x, rfl, hx0⟩ := map_at hd
          rw [Nat.zero_add]
          have ok := goodS_at q2 hx0
          have hjl := (List.getElem?_eq_some_iff.mp hx0).1
          have tk : xs.take (j + 1) = xs.take j ++ [x] := by rw [List.take_add_one, hx0]; rfl
          obtain ⟨s10', s11', r1⟩ := span_ev (a := a) (cs := cs) (xs := xs) (es := xs.take j) (hop := hop) (pts := fin (1 + (cs.length : Int)) (xs.take j)) (ps := plc (nmK cs) (1 + (cs.length : Int)) (xs.take j)) (s6 := .fz (oS x.p)) (s8 := .fz (oI x.s)) (s9 := .fz (oI x.e)) (s12 := .un) (s13 := .un) (s14 := .un) (s5 := s5) (s7 := s7) (s10 := s10) (s11 := s11) ok.even ok.clk ok.new (by rw [plc_len, List.length_take]; omega)
          refine ⟨enT a cs xs hop (fin (1 + (cs.length : Int)) (xs.take j)) (evK (xs.take j)) (plc (nmK cs) (1 + (cs.length : Int)) (xs.take j)) (.fz (.str x.n)) (.fz (oS x.p)) (.fz (.str x.c)) (.fz (oI x.s)) (.fz (oI x.e)) s10 s11 .un .un .un, enT a cs xs hop (adv (fin (1 + (cs.length : Int)) (xs.take j)) x) (evK (xs.take j ++ [x])) (plc (nmK cs) (1 + (cs.length : Int)) (xs.take j) ++ plc1 (nmK cs) (fin (1 + (cs.length : Int)) (xs.take j)) x) (.fz (.str x.n)) (.fz (oS x.p)) (.fz (.str x.c)) (.fz (oI x.s)) (.fz (oI x.e)) s10' s11' .un .un .un, rfl, .inl ?_, ⟨.fz (.str x.n), .fz (oS x.p), .fz (.str x.c), .fz (oI x.s), .fz (oI x.e), s10', s11', ?_⟩⟩
          · subst hmb
            exact r1
          · rw [tk, fin_app, plc_app]
            show enT _ _ _ _ _ _ _ _ _ _ _ _ _ _ _ _ _ = enT _ _ _ _ (adv _ x) _ (_ ++ (plc1 _ _ x ++ [])) _ _ _ _ _ _ _ _ _ _
            rw [List.append_nil]
        rw [Nat.zero_add, List.length_map, List.take_length] at f1
        refine ⟨s5, s6, s7, s8, s9, s10, s11, ?_⟩
        show (((some (xs.map encS)).bind fun ds => runFor _ mb ds _).map OutX.o) = _
        show ((runFor _ mb (xs.map encS) _).map OutX.o) = _
        rw [f1]
        rfl
      · rw [decide_eq_false q3]
        refine ⟨fun z => (by simp at z), fun _ => ⟨en0 cs xs hop .un (obN a ["clocks", "spans", "hop"] [.fz (.tup (cs.map encK)), .fz (.tup (xs.map encS)), .fz (.int hop)]) .un, ?_⟩⟩
        rw [if_pos (by rfl)]
theorem mb_ok {cs : List Ck} {xs : List Spn} {hop : Int} (h : shortK cs) (hx : shortS xs) (a : Addr) : mb_Trace a [.lst (cs.map encK), .lst (xs.map encS), .int hop] = some (if goodAll cs xs hop = true then .ok (traceD cs xs hop) else .ex "BadTrace") := by
  obtain ⟨k1, k2⟩ := init_ok (hop := hop) h hx a
  unfold mb_Trace callIX
  rw [show ((Sl.rt (.rf 15) :: ([D.lst (cs.map encK), .lst (xs.map encS), .int hop].map Sl.fz ++ List.replicate (17 - 1 - [D.lst (cs.map encK), .lst (xs.map encS), .int hop].length) Sl.un)).set 15 (.nd (.obj (some a) "Trace" [] []))) = en0 cs xs hop .un (obN a [] []) .un from rfl]
  cases q : goodAll cs xs hop with
  | false =>
    obtain ⟨E, e⟩ := k2 q
    rw [e]
    rfl
  | true =>
    obtain ⟨s5, s6, s7, s8, s9, s10, s11, e⟩ := k1 q
    rw [e]
    generalize hks : evK xs = ks
    generalize hps : plc (nmK cs) (1 + (cs.length : Int)) xs = ps
    have hd : ndD (.dct (.t ks) (valP ps)) = some (.dct (.t ks) (ps.map encP)) := by
      show (closeds (valP ps)).map (D.dct (.t ks)) = _
      rw [closeds_valP]
      rfl
    have hf : frzNs [16] (enT a cs xs hop (fin (1 + (cs.length : Int)) xs) ks ps s5 s6 s7 s8 s9 s10 s11 .un .un .un) = subE 16 (.dct (.t ks) (ps.map encP)) (enT a cs xs hop (fin (1 + (cs.length : Int)) xs) ks ps s5 s6 s7 s8 s9 s10 s11 .un .un .un) := by
      unfold frzNs
      show frzNs [] (match ndD (.dct (.t ks) (valP ps)) with | some d => subE 16 d _ | none => _) = _
      rw [hd]
      rfl
    dsimp only
    rw [hf]
    unfold traceD
    rw [hks, hps]
    show (if (some a : Option Addr) = some a then _ else _) = _
    rw [if_pos rfl]
    rfl
theorem mi_ok {cs : List Ck} {xs : List Spn} {hop : Int} (h : shortK cs) (hx : shortS xs) : mi_Trace [.lst (cs.map encK), .lst (xs.map encS), .int hop] = some (if goodAll cs xs hop = true then .ok (traceD cs xs hop) else .ex "BadTrace") := anyA_eq fun a => mb_ok h hx a
end Sx

set_option Elab.async false
set_option linter.all false
set_option maxRecDepth 100000
set_option maxHeartbeats 4000000
namespace Sx
open PySem L2
theorem atK_idx {κ α : Type} [DecidableEq κ] : ∀ (ks : List κ) (vs : List α) (j : Nat) (k : κ), ks[j]? = some k → (∀ i < j, ks[i]? ≠ some k) → atK ks vs k = vs[j]?
  | [], vs, j, k, h, _ => by simp at h
  | q :: ks, [], j, k, h, _ => by
    unfold atK
    simp
  | q :: ks, v :: vs, 0, k, h, _ => by
    have h : q = k := by simpa using h
    unfold atK
    rw [if_pos h]
    rfl
  | q :: ks, v :: vs, j + 1, k, h, hb => by
    have h0 : ¬ q = k := fun z => hb 0 (by omega) (by simp [z])
    unfold atK
    rw [if_neg h0]
    have := atK_idx ks vs j k (by simpa using h) fun i hi z => hb (i + 1) (by omega) (by simpa using z)
    rw [this]
    simp
theorem evK_even : ∀ (xs : List Spn) (i : Nat), (evK xs)[2 * i]? = (xs[i]?).map fun x => [.inr x.n, .inr "start"]
  | [], i => by simp [evK]
  | x :: xs, 0 => rfl
  | x :: xs, i + 1 => by
    show (_ :: _ :: evK xs)[2 * (i + 1)]? = _
    rw [show 2 * (i + 1) = 2 * i + 1 + 1 by omega, List.getElem?_cons_succ, List.getElem?_cons_succ, evK_even xs i]
    rfl
theorem evK_odd : ∀ (xs : List Spn) (i : Nat), (evK xs)[2 * i + 1]? = (xs[i]?).map fun x => [.inr x.n, .inr "end"]
  | [], i => by simp [evK]
  | x :: xs, 0 => rfl
  | x :: xs, i + 1 => by
    show (_ :: _ :: evK xs)[2 * (i + 1) + 1]? = _
    rw [show 2 * (i + 1) + 1 = (2 * i + 1) + 1 + 1 by omega, List.getElem?_cons_succ, List.getElem?_cons_succ, evK_odd xs i]
    rfl
theorem nd_lt {xs : List Spn} (nd : (nmS xs).Nodup) {i j : Nat} {x y : Spn} (hi : xs[i]? = some x) (hj : xs[j]? = some y) (h : i < j) : x.n ≠ y.n := by
  intro e
  have hi' := (List.getElem?_eq_some_iff.mp hi)
  have hj' := (List.getElem?_eq_some_iff.mp hj)
  obtain ⟨h1, e1⟩ := hi'
  obtain ⟨h2, e2⟩ := hj'
  have g1 : (nmS xs)[i]'(by unfold nmS; rw [List.length_map]; exact h1) = x.n := by unfold nmS; rw [List.getElem_map, e1]
  have g2 : (nmS xs)[j]'(by unfold nmS; rw [List.length_map]; exact h2) = y.n := by unfold nmS; rw [List.getElem_map, e2]
  have := (List.pairwise_iff_getElem.mp nd) i j (by unfold nmS; rw [List.length_map]; exact h1) (by unfold nmS; rw [List.length_map]; exact h2) h
  rw [g1, g2] at this
  exact this e
theorem ev_start {xs : List Spn} (nd : (nmS xs).Nodup) {k : Nat} {x : Spn} (hk : xs[k]? = some x) (ds : List D) : ixD2 (.dct (.t (evK xs)) ds) (.tup [.str x.n, .str "start"]) = ds[2 * k]? := by
  show (some (atK (evK xs) ds [.inr x.n, .inr "start"])).bind id = _
  rw [atK_idx (evK xs) ds (2 * k) [.inr x.n, .inr "start"] (by rw [evK_even, hk]; rfl)]
  · rfl
  · intro i hi z
    obtain ⟨m, rfl | rfl⟩ : ∃ m, i = 2 * m ∨ i = 2 * m + 1 := ⟨i / 2, by omega⟩
    · rw [evK_even] at z
      obtain ⟨y, hy, e⟩ := map_some z
      simp at e
      exact nd_lt nd hy hk (by omega) e
    · rw [evK_odd] at z
      obtain ⟨y, hy, e⟩ := map_some z
      simp at e
      exact ne_se e.2.symm
theorem ev_end {xs : List Spn} (nd : (nmS xs).Nodup) {k : Nat} {x : Spn} (hk : xs[k]? = some x) (ds : List D) : ixD2 (.dct (.t (evK xs)) ds) (.tup [.str x.n, .str "end"]) = ds[2 * k + 1]? := by
  show (some (atK (evK xs) ds [.inr x.n, .inr "end"])).bind id = _
  rw [atK_idx (evK xs) ds (2 * k + 1) [.inr x.n, .inr "end"] (by rw [evK_odd, hk]; rfl)]
  · rfl
  · intro i hi z
    obtain ⟨m, rfl | rfl⟩ : ∃ m, i = 2 * m ∨ i = 2 * m + 1 := ⟨i / 2, by omega⟩
    · rw [evK_even] at z
      obtain ⟨y, hy, e⟩ := map_some z
      simp at e
      exact ne_se e.2
    · rw [evK_odd] at z
      obtain ⟨y, hy, e⟩ := map_some z
      simp at e
      exact nd_lt nd hy hk (by omega) e
abbrev F4 := Int × Int × Int × Option Int
def encF (f : F4) : D := .tup [.int f.1, .int f.2.1, .int f.2.2.1, oI f.2.2.2]
def laterF (p q : Int × Int) (gap : Int) : List F4 := if p.1 = q.1 then [] else [(p.1, q.1, gap + p.2 - q.2, none)]
theorem later_ok {cs : List Ck} {xs : List Spn} {hop gap : Int} {n1 s1 n2 s2 : Str} {p q : Int × Int} (h1 : ixD2 (.dct (.t (evK xs)) ((plc (nmK cs) (1 + (cs.length : Int)) xs).map encP)) (.tup [.str n1, .str s1]) = some (encP p)) (h2 : ixD2 (.dct (.t (evK xs)) ((plc (nmK cs) (1 + (cs.length : Int)) xs).map encP)) (.tup [.str n2, .str s2]) = some (encP q)) :
    mF__later [traceD cs xs hop, .tup [.str n1, .str s1], .tup [.str n2, .str s2], .int gap] = some ((laterF p q gap).map encF) := by
  have fd : fldD "Trace" "events" (traceD cs xs hop) = some (.dct (.t (evK xs)) ((plc (nmK cs) (1 + (cs.length : Int)) xs).map encP)) := rfl
  unfold mF__later callF b__later laterF
  by_cases e : p.1 = q.1
  · simp [-ixD2, fd, h1, h2, encP, e]
  · simp [-ixD2, fd, h1, h2, encP, e, encF, oI]
end Sx

set_option Elab.async false
set_option linter.all false
set_option maxRecDepth 100000
set_option maxHeartbeats 4000000
namespace Sx
open PySem L2
def SK (P : List (Int × Int)) (k : Nat) : Int × Int := P.getD (2 * k) (0, 0)
def TK (P : List (Int × Int)) (k : Nat) : Int × Int := P.getD (2 * k + 1) (0, 0)
def parF (P : List (Int × Int)) (xs : List Spn) (leap : Int) (k : Nat) (x : Spn) : List F4 := match x.p with
  | none => []
  | some p => match numN (nmS xs) p with
    | none => []
    | some j => match xs[j]? with
      | none => []
      | some u => laterF (SK P j) (SK P k) (if x.c = u.c then 0 else leap) ++ laterF (TK P k) (TK P j) (if x.c = u.c then 0 else leap)
def stepF (P : List (Int × Int)) (xs : List Spn) (leap : Int) (k : Nat) (x : Spn) : List F4 := (if x.s.isNone = true then laterF (SK P k) (TK P k) 0 else []) ++ parF P xs leap k x
def clkF (cs : List Ck) : List F4 := cs.zipIdx.map fun p => ((0 : Int), ((p.2 : Nat) : Int) + 1, -p.1.2, some p.1.2)
def dueF (cs : List Ck) (xs : List Spn) (leap : Int) (n : Nat) : List F4 := clkF cs ++ (List.range n).flatMap fun k => match xs[k]? with
  | some x => stepF (plc (nmK cs) (1 + (cs.length : Int)) xs) xs leap k x
  | none => []
theorem dueF_succ {cs : List Ck} {xs : List Spn} {leap : Int} {k : Nat} {x : Spn} (h : xs[k]? = some x) : dueF cs xs leap (k + 1) = dueF cs xs leap k ++ stepF (plc (nmK cs) (1 + (cs.length : Int)) xs) xs leap k x := by
  unfold dueF
  rw [List.range_succ, List.flatMap_append, List.append_assoc]
  simp [h]
theorem laterF_len (p q : Int × Int) (g : Int) : (laterF p q g).length ≤ 1 := by
  unfold laterF
  split <;> simp
theorem parF_len (P : List (Int × Int)) (xs : List Spn) (leap : Int) (k : Nat) (x : Spn) : (parF P xs leap k x).length ≤ 2 := by
  unfold parF
  split
  · simp
  · split
    · simp
    · split
      · simp
      · rename_i u _
        have h1 := laterF_len
        rw [List.length_append]
        have a1 := h1 (SK P ‹_›) (SK P k) (if x.c = u.c then 0 else leap)
        have a2 := h1 (TK P k) (TK P ‹_›) (if x.c = u.c then 0 else leap)
        omega
theorem stepF_len (P : List (Int × Int)) (xs : List Spn) (leap : Int) (k : Nat) (x : Spn) : (stepF P xs leap k x).length ≤ 3 := by
  unfold stepF
  rw [List.length_append]
  have h1 := parF_len P xs leap k x
  have h2 := laterF_len (SK P k) (TK P k) 0
  split
  · omega
  · simp
    omega
theorem dueF_len (cs : List Ck) (xs : List Spn) (leap : Int) : ∀ n, (dueF cs xs leap n).length ≤ cs.length + 3 * n
  | 0 => by unfold dueF clkF; simp
  | n + 1 => by
    have ih := dueF_len cs xs leap n
    cases h : xs[n]? with
    | some x =>
      rw [dueF_succ h, List.length_append]
      have := stepF_len (plc (nmK cs) (1 + (cs.length : Int)) xs) xs leap n x
      omega
    | none =>
      have : dueF cs xs leap (n + 1) = dueF cs xs leap n := by
        unfold dueF
        rw [List.range_succ, List.flatMap_append]
        simp [h]
      rw [this]
      omega
theorem enum_zip {α : Type} (f : α → D) : ∀ (xs : List α) (n : Nat), enumD n (xs.map f) = (xs.zipIdx n).map fun p => .tup [.int ((p.2 : Nat) : Int), f p.1]
  | [], n => rfl
  | x :: xs, n => by
    show .tup _ :: enumD (n + 1) (xs.map f) = _
    rw [enum_zip f xs (n + 1)]
    rfl
def cofV (xs : List Spn) : List D := xs.map fun x => .str x.c
theorem cof_dc {E0 : En} {me : En → D → Option En} {mk mv : En → Option D} (hs : ∀ x : Spn, ∃ E1, me E0 (encS x) = some E1 ∧ mk E1 = some (.str x.n) ∧ mv E1 = some (.str x.c)) : ∀ (xs pre : List Spn), (nmS (pre ++ xs)).Nodup →
    runDc me mYes mk mv E0 (xs.map encS) ((nmS pre).map Sum.inr) (cofV pre) = some ((nmS (pre ++ xs)).map Sum.inr, cofV (pre ++ xs))
  | [], pre, _ => by
    rw [List.append_nil]
    rfl
  | x :: xs, pre, nd => by
    obtain ⟨E1, h1, h2, h3⟩ := hs x
    have hn : (Sum.inr x.n : Key) ∉ (nmS pre).map (Sum.inr : Str → Key) := fun z => by
      have z' : x.n ∈ nmS pre := by simpa using z
      have nd' : (nmS pre ++ nmS (x :: xs)).Nodup := by
        have : nmS (pre ++ x :: xs) = nmS pre ++ nmS (x :: xs) := List.map_append ..
        rw [← this]
        exact nd
      rw [List.nodup_append] at nd'
      exact nd'.2.2 _ z' x.n (List.mem_cons_self ..) rfl
    have red : runDc me mYes mk mv E0 ((x :: xs).map encS) ((nmS pre).map Sum.inr) (cofV pre) = runDc me mYes mk mv E0 (xs.map encS) (putKey ((nmS pre).map Sum.inr) (Sum.inr x.n)) (putVal ((nmS pre).map (Sum.inr : Str → Key)) (cofV pre) (Sum.inr x.n) (.str x.c)) := by
      show ((me E0 (encS x)).bind fun E1 => (mYes E1).bind fun b => if b = true then (mk E1).bind fun a => (keyD a).bind fun κ => (mv E1).bind fun v => runDc me mYes mk mv E0 (xs.map encS) (putKey ((nmS pre).map Sum.inr) κ) (putVal ((nmS pre).map Sum.inr) (cofV pre) κ v) else _) = _
      rw [h1]
      dsimp only [Option.bind_some, mYes]
      rw [if_pos rfl, h2]
      dsimp only [Option.bind_some]
      rw [h3]
      rfl
    rw [red]
    have ek : putKey ((nmS pre).map (Sum.inr : Str → Key)) (Sum.inr x.n) = (nmS (pre ++ [x])).map Sum.inr := by
      unfold putKey
      rw [if_neg hn]
      unfold nmS
      simp
    have ev : putVal ((nmS pre).map (Sum.inr : Str → Key)) (cofV pre) (Sum.inr x.n) (D.str x.c) = cofV (pre ++ [x]) := by
      unfold putVal
      rw [if_neg hn]
      unfold cofV
      simp
    have ea : pre ++ x :: xs = (pre ++ [x]) ++ xs := by simp
    rw [ek, ev, ea]
    exact cof_dc hs xs (pre ++ [x]) (by rw [← ea]; exact nd)
theorem cof_at {xs : List Spn} {j : Nat} {u : Spn} {p : Str} (h1 : numN (nmS xs) p = some j) (hb : ∀ i < j, (nmS xs)[i]? ≠ some p) (hu : xs[j]? = some u) (hp : u.n = p) : ixD2 (.dct (.k ((nmS xs).map Sum.inr)) (cofV xs)) (.str p) = some (.str u.c) := by
  show (some (atK ((nmS xs).map Sum.inr) (cofV xs) (Sum.inr p))).bind id = _
  rw [atK_idx _ (cofV xs) j (Sum.inr p) (by rw [List.getElem?_map]; unfold nmS; rw [List.getElem?_map, hu, ← hp]; rfl) (fun i hi z => by
    rw [List.getElem?_map] at z
    obtain ⟨y, hy, e⟩ := map_some z
    cases e
    exact hb i hi hy)]
  show (cofV xs)[j]? = _
  unfold cofV
  rw [List.getElem?_map, hu]
  rfl
structure Par (xs : List Spn) (k : Nat) (p : Str) (j : Nat) (u : Spn) : Prop where
  num : numN (nmS xs) p = some j
  at_ : xs[j]? = some u
  nm : u.n = p
  fst : ∀ i < j, (nmS xs)[i]? ≠ some p
theorem par_of {ns : List Str} {xs : List Spn} (h : goodS ns xs = true) {k : Nat} {x : Spn} {p : Str} (hk : xs[k]? = some x) (hp : x.p = some p) : ∃ j u, Par xs k p j u := by
  have hm := (goodS_at h hk).par p hp
  have hm' : p ∈ nmS xs := by
    unfold nmS at hm ⊢
    obtain ⟨y, hy, e⟩ := List.mem_map.mp hm
    exact List.mem_map.mpr ⟨y, List.mem_of_mem_take hy, e⟩
  obtain ⟨j, h1, h2, h3⟩ := numN_mem hm'
  unfold nmS at h2
  rw [List.getElem?_map] at h2
  obtain ⟨u, hu, e⟩ := map_some h2
  exact ⟨j, u, h1, hu, e, h3⟩
theorem good_nd {ns : List Str} {xs : List Spn} (h : goodS ns xs = true) : (nmS xs).Nodup := by
  rw [List.nodup_iff_pairwise_ne, List.pairwise_iff_getElem]
  intro i j hi hj hij e
  have li : i < xs.length := by unfold nmS at hi; rwa [List.length_map] at hi
  have lj : j < xs.length := by unfold nmS at hj; rwa [List.length_map] at hj
  have := (goodS_at h (List.getElem?_eq_getElem lj)).new
  refine this ?_
  have e1 : (nmS xs)[i] = xs[i].n := List.getElem_map ..
  have e2 : (nmS xs)[j] = xs[j].n := List.getElem_map ..
  rw [← e2, ← e, e1]
  unfold nmS
  refine List.mem_map_of_mem ?_
  rw [List.mem_take_iff_getElem]
  exact ⟨i, by omega, rfl⟩
end Sx

set_option Elab.async false
set_option linter.all false
set_option maxRecDepth 100000
set_option maxHeartbeats 4000000
namespace Sx
open PySem L2
section
variable {cs : List Ck} {xs : List Spn} {hop : Int}
abbrev PP (cs : List Ck) (xs : List Spn) : List (Int × Int) := plc (nmK cs) (1 + (cs.length : Int)) xs
theorem pl_at {P : List (Int × Int)} {i : Nat} (h : i < P.length) : (P.map encP)[i]? = some (encP (P.getD i (0, 0))) := by
  rw [List.getElem?_map, List.getElem?_eq_getElem h, List.getD_eq_getElem?_getD, List.getElem?_eq_getElem h]
  rfl
theorem evS_at (nd : (nmS xs).Nodup) {k : Nat} {x : Spn} (hk : xs[k]? = some x) : ixD2 (.dct (.t (evK xs)) ((PP cs xs).map encP)) (.tup [.str x.n, .str "start"]) = some (encP (SK (PP cs xs) k)) := by
  have := (List.getElem?_eq_some_iff.mp hk).1
  rw [ev_start nd hk, pl_at (by rw [plc_len]; omega)]
  rfl
theorem evE_at (nd : (nmS xs).Nodup) {k : Nat} {x : Spn} (hk : xs[k]? = some x) : ixD2 (.dct (.t (evK xs)) ((PP cs xs).map encP)) (.tup [.str x.n, .str "end"]) = some (encP (TK (PP cs xs) k)) := by
  have := (List.getElem?_eq_some_iff.mp hk).1
  rw [ev_end nd hk, pl_at (by rw [plc_len]; omega)]
  rfl
def cofD (xs : List Spn) : D := .dct (.k ((nmS xs).map Sum.inr)) (cofV xs)
def enF (cs : List Ck) (xs : List Spn) (hop : Int) (fs : List F4) (s3 s4 s5 s6 s7 s9 : Sl) : En := [.fz (traceD cs xs hop), .ow (fs.map encF), .fz (cofD xs), s3, s4, s5, s6, s7, .un, s9, .un, .un]
def faB : En → Option Out := (mSeq (mIfS (fun E => ((mVarT 6) E).map isN) (mExt 1 (mCallF 4 mF__later (mCons (mVar 0) (mCons (mTup (mCons (mVar 3) (mCons (mC (.str "start")) mNil))) (mCons (mTup (mCons (mVar 3) (mCons (mC (.str "end")) mNil))) (mCons (mC (.int 0)) mNil)))))) mNext)
      (mIfS (fun E => ((mVarT 4) E).map (fun d => !isN d)) (mSeq (mSet 9 (mIf (fun E => ((mBin eqD (mVarT 5) (mBin ixD2 (mVarT 2) (mVarT 4))) E).bind blOf) (mC (.int 0)) (mUn (fldD "Trace" "hop") (mVarT 0))))
      (mSeq (mExt 1 (mCallF 4 mF__later (mCons (mVar 0) (mCons (mTup (mCons (mVar 4) (mCons (mC (.str "start")) mNil))) (mCons (mTup (mCons (mVar 3) (mCons (mC (.str "start")) mNil))) (mCons (mVar 9) mNil))))))
      (mExt 1 (mCallF 4 mF__later (mCons (mVar 0) (mCons (mTup (mCons (mVar 3) (mCons (mC (.str "end")) mNil))) (mCons (mTup (mCons (mVar 4) (mCons (mC (.str "end")) mNil))) (mCons (mVar 9) mNil)))))))) mNext))
theorem ext_nx {m : En → Option (List D)} {fs gs : List F4} {s3 s4 s5 s6 s7 s9 : Sl} (h : m (enF cs xs hop fs s3 s4 s5 s6 s7 s9) = some (gs.map encF)) (hl : fs.length + gs.length ≤ 100000) : mExt 1 m (enF cs xs hop fs s3 s4 s5 s6 s7 s9) = some (.nx (enF cs xs hop (fs ++ gs) s3 s4 s5 s6 s7 s9)) := by
  unfold mExt
  rw [h]
  dsimp only [Option.bind_some]
  show (if (fs.map encF).length + (gs.map encF).length ≤ 100000 then some (Out.nx _) else none) = _
  rw [if_pos (by rw [List.length_map, List.length_map]; exact hl)]
  unfold enF
  rw [List.map_append]
  rfl
theorem callF_at {n : Nat} {m : List D → Option (List D)} {a : En → Option (List D)} {E : En} {ds : List D} (h : a E = some ds) (hl : ds.length = n) : mCallF n m a E = m ds := by
  show (a E).bind _ = _
  rw [h]
  dsimp only [Option.bind_some]
  rw [if_pos hl]
theorem fa_step (hg : goodS (nmK cs) xs = true) {k : Nat} {x : Spn} (hk : xs[k]? = some x) {fs : List F4} (hl : fs.length + 10 ≤ 100000) {s7 s9 : Sl} : ∃ s9', faB (enF cs xs hop fs (.fz (.str x.n)) (.fz (oS x.p)) (.fz (.str x.c)) (.fz (oI x.s)) s7 s9) = some (.nx (enF cs xs hop (fs ++ stepF (PP cs xs) xs hop k x) (.fz (.str x.n)) (.fz (oS x.p)) (.fz (.str x.c)) (.fz (oI x.s)) s7 s9')) := by
  have nd := good_nd hg
  unfold faB stepF
  have first : ∃ fs1, (mIfS (fun E => ((mVarT 6) E).map isN) (mExt 1 (mCallF 4 mF__later (mCons (mVar 0) (mCons (mTup (mCons (mVar 3) (mCons (mC (.str "start")) mNil))) (mCons (mTup (mCons (mVar 3) (mCons (mC (.str "end")) mNil))) (mCons (mC (.int 0)) mNil)))))) mNext) (enF cs xs hop fs (.fz (.str x.n)) (.fz (oS x.p)) (.fz (.str x.c)) (.fz (oI x.s)) s7 s9) = some (.nx (enF cs xs hop (fs ++ fs1) (.fz (.str x.n)) (.fz (oS x.p)) (.fz (.str x.c)) (.fz (oI x.s)) s7 s9)) ∧ fs1 = (if x.s.isNone = true then laterF (SK (PP cs xs) k) (TK (PP cs xs) k) 0 else []) ∧ fs1.length ≤ 1 := by
    refine ⟨_, ?_, rfl, ?_⟩
    · cases hs : x.s with
      | none =>
        show mExt 1 _ (enF cs xs hop fs (.fz (.str x.n)) (.fz (oS x.p)) (.fz (.str x.c)) (.fz .non) s7 s9) = _
        refine ext_nx ?_ ?_
        · rw [callF_at (n := 4) (ds := [traceD cs xs hop, .tup [.str x.n, .str "start"], .tup [.str x.n, .str "end"], .int 0]) rfl rfl]
          exact later_ok (evS_at nd hk) (evE_at nd hk)
        · have := laterF_len (SK (PP cs xs) k) (TK (PP cs xs) k) 0
          simp
          omega
      | some i =>
        simp
        rfl
    · have := laterF_len (SK (PP cs xs) k) (TK (PP cs xs) k) 0
      split
      · exact this
      · simp
  obtain ⟨fs1, f1, e1, l1⟩ := first
  rw [seq_nx _ f1, ← e1]
  cases hp : x.p with
  | none =>
    refine ⟨s9, ?_⟩
    have : parF (PP cs xs) xs hop k x = [] := by unfold parF; rw [hp]
    rw [this, List.append_nil]
    rfl
  | some p =>
    obtain ⟨j, u, pr⟩ := par_of hg hk hp
    have pf : parF (PP cs xs) xs hop k x = laterF (SK (PP cs xs) j) (SK (PP cs xs) k) (if x.c = u.c then 0 else hop) ++ laterF (TK (PP cs xs) k) (TK (PP cs xs) j) (if x.c = u.c then 0 else hop) := by
      unfold parF
      rw [hp]
      dsimp only
      rw [pr.num]
      dsimp only
      rw [pr.at_]
    have c1 := cof_at pr.num pr.fst pr.at_ pr.nm
    have gv : (mIf (fun E => ((mBin eqD (mVarT 5) (mBin ixD2 (mVarT 2) (mVarT 4))) E).bind blOf) (mC (.int 0)) (mUn (fldD "Trace" "hop") (mVarT 0))) (enF cs xs hop (fs ++ fs1) (.fz (.str x.n)) (.fz (.str p)) (.fz (.str x.c)) (.fz (oI x.s)) s7 s9) = some (.int (if x.c = u.c then 0 else hop)) := by
      show ((((ixD2 (cofD xs) (.str p)).bind fun y => eqD (.str x.c) y).bind blOf).bind fun b => if b = true then some (D.int 0) else some (D.int hop)) = _
      unfold cofD
      rw [c1]
      show (if decide (x.c = u.c) = true then some (D.int 0) else some (D.int hop)) = _
      by_cases e : x.c = u.c
      · rw [decide_eq_true e, if_pos rfl, if_pos e]
      · rw [decide_eq_false e, if_neg Bool.false_ne_true, if_neg e]
    generalize (if x.c = u.c then (0 : Int) else hop) = g at gv pf
    refine ⟨.fz (.int g), ?_⟩
    show mSeq _ _ (enF cs xs hop (fs ++ fs1) (.fz (.str x.n)) (.fz (.str p)) (.fz (.str x.c)) (.fz (oI x.s)) s7 s9) = _
    rw [seq_nx (enF cs xs hop (fs ++ fs1) (.fz (.str x.n)) (.fz (.str p)) (.fz (.str x.c)) (.fz (oI x.s)) s7 (.fz (.int g))) (by show ((mIf _ _ _ _).map _) = _; rw [gv]; rfl)]
    have la := laterF_len (SK (PP cs xs) j) (SK (PP cs xs) k) g
    have lb := laterF_len (TK (PP cs xs) k) (TK (PP cs xs) j) g
    have hu := pr.nm
    rw [seq_nx _ (ext_nx (gs := laterF (SK (PP cs xs) j) (SK (PP cs xs) k) g) (by
      rw [callF_at (n := 4) (ds := [traceD cs xs hop, .tup [.str p, .str "start"], .tup [.str x.n, .str "start"], .int g]) rfl rfl, ← hu]
      exact later_ok (evS_at nd pr.at_) (evS_at nd hk)) (by rw [List.length_append]; omega))]
    rw [ext_nx (gs := laterF (TK (PP cs xs) k) (TK (PP cs xs) j) g) (by
      rw [callF_at (n := 4) (ds := [traceD cs xs hop, .tup [.str x.n, .str "end"], .tup [.str p, .str "end"], .int g]) rfl rfl, ← hu]
      exact later_ok (evE_at nd hk) (evE_at nd pr.at_)) (by rw [List.length_append, List.length_append]; omega)]
    rw [pf]
    simp only [List.append_assoc]
    rfl
end
end Sx

set_option Elab.async false
set_option linter.all false
set_option maxRecDepth 100000
set_option maxHeartbeats 4000000
namespace Sx
open PySem L2
theorem goodAll_parts {cs : List Ck} {xs : List Spn} {hop : Int} (h : goodAll cs xs hop = true) : goodK cs = true ∧ (0 ≤ hop ∧ hop ≤ 1000000) ∧ goodS (nmK cs) xs = true := by
  unfold goodAll at h
  simp only [Bool.and_eq_true, decide_eq_true_eq] at h
  exact ⟨h.1, h.2.1, h.2.2⟩
theorem trace_facts_ok {cs : List Ck} {xs : List Spn} {hop hop0 : Int} (hx : shortS xs) (hg : goodAll cs xs hop0 = true) : mF_trace_facts [traceD cs xs hop] = some ((dueF cs xs hop xs.length).map encF) := by
  obtain ⟨gk, _, gs⟩ := goodAll_parts hg
  obtain ⟨_, k1, k6⟩ := goodK_nd gk
  obtain ⟨hxn, hxl⟩ := hx
  have nd := good_nd gs
  have fc : fldD "Trace" "clocks" (traceD cs xs hop) = some (.tup (cs.map encK)) := rfl
  have fs : fldD "Trace" "spans" (traceD cs xs hop) = some (.tup (xs.map encS)) := rfl
  unfold mF_trace_facts callF b_trace_facts
  show (match mSeq _ _ [.fz (traceD cs xs hop), .un, .un, .un, .un, .un, .un, .un, .un, .un, .un, .un] with | some (.rf ds) => some ds | _ => none) = _
  have c1 : mComp [10, 7, 11] (mEnumT (mUn (fldD "Trace" "clocks") (mVarT 0))) (gTupM 2 (gsCons (gM 10) (gsCons (gTupM 2 (gsCons (gM 7) (gsCons (gM 11) gsNil))) gsNil))) mYes (mTup (mCons (mC (.int 0)) (mCons (mBin addD (mVarT 10) (mC (.int 1))) (mCons (mUn negD (mVarT 11)) (mCons (mVar 11) mNil))))) [.fz (traceD cs xs hop), .un, .un, .un, .un, .un, .un, .un, .un, .un, .un, .un] = some ((clkF cs).map encF) := by
    refine mComp_at (ds := enumD 0 (cs.map encK)) rfl (by rw [enumD_len, List.length_map]; omega) ?_
    rw [enum_zip encK cs 0]
    obtain ⟨ys, r1, r2⟩ := runComp_enc (mg := gTupM 2 (gsCons (gM 10) (gsCons (gTupM 2 (gsCons (gM 7) (gsCons (gM 11) gsNil))) gsNil))) (mt := mYes) (me := mTup (mCons (mC (.int 0)) (mCons (mBin addD (mVarT 10) (mC (.int 1))) (mCons (mUn negD (mVarT 11)) (mCons (mVar 11) mNil))))) (E0 := wipeE [.fz (traceD cs xs hop), .un, .un, .un, .un, .un, .un, .un, .un, .un, .un, .un] [10, 7, 11])
      (fun (p : Ck × Nat) => D.tup [.int ((p.2 : Nat) : Int), encK p.1]) encF (fun p f => f = ((0 : Int), ((p.2 : Nat) : Int) + 1, -p.1.2, some p.1.2)) (cs.zipIdx 0) fun p _ => ⟨_, _, rfl, rfl, rfl, rfl⟩
    rw [r1, Paired.fn r2]
    rfl
  rw [seq_nx [.fz (traceD cs xs hop), .ow ((clkF cs).map encF), .un, .un, .un, .un, .un, .un, .un, .un, .un, .un] (by show ((mComp _ _ _ _ _ _).map _) = _; rw [c1]; rfl)]
  have c2 : mDc [8] (fun E => ((mUn (fldD "Trace" "spans") (mVarT 0)) E).bind tupOf) (gM 8) mYes (mBin ixD (mVarT 8) (mC (.int 0))) (mBin ixD (mVarT 8) (mC (.int 2))) [.fz (traceD cs xs hop), .ow ((clkF cs).map encF), .un, .un, .un, .un, .un, .un, .un, .un, .un, .un] = some (cofD xs) := by
    show (if (xs.map encS).length ≤ 100000 then (runDc _ mYes _ _ _ (xs.map encS) [] []).map _ else none) = _
    rw [if_pos (by rw [List.length_map]; omega)]
    have := cof_dc (E0 := wipeE [.fz (traceD cs xs hop), .ow ((clkF cs).map encF), .un, .un, .un, .un, .un, .un, .un, .un, .un, .un] [8]) (me := gM 8) (mk := mBin ixD (mVarT 8) (mC (.int 0))) (mv := mBin ixD (mVarT 8) (mC (.int 2))) (fun x => ⟨_, rfl, rfl, rfl⟩) xs [] nd
    rw [List.nil_append] at this
    show (runDc _ mYes _ _ _ (xs.map encS) ((nmS []).map Sum.inr) (cofV [])).map _ = _
    rw [this]
    rfl
  rw [seq_nx (enF cs xs hop (clkF cs) .un .un .un .un .un .un) (by show ((mDc _ _ _ _ _ _ _).map _) = _; rw [c2]; rfl)]
  generalize hmb : mSeq (mIfS (fun E => ((mVarT 6) E).map isN) _ _) _ = mb
  have hmb' : faB = mb := hmb
  obtain ⟨E', f1, s3, s4, s5, s6, s7, s9, rfl⟩ := runFor_inv (mg := gTupM 5 (gsCons (gM 3) (gsCons (gM 4) (gsCons (gM 5) (gsCons (gM 6) (gsCons (gM 7) gsNil)))))) (mb := mb) (fun j E => ∃ s3 s4 s5 s6 s7 s9, E = enF cs xs hop (dueF cs xs hop j) s3 s4 s5 s6 s7 s9) (xs.map encS) 0 (enF cs xs hop (clkF cs) .un .un .un .un .un .un) ⟨_, _, _, _, _, _, by
      unfold dueF
      rw [List.range_zero, List.flatMap_nil, List.append_nil]⟩ fun j d E hd hI => by
    obtain ⟨s3, s4, s5, s6, s7, s9, rfl⟩ := hI
    obtain ⟨x, rfl, hx0⟩ := map_at hd
    rw [Nat.zero_add]
    have hjl := (List.getElem?_eq_some_iff.mp hx0).1
    have hl := dueF_len cs xs hop j
    obtain ⟨s9', st⟩ := fa_step (hop := hop) gs hx0 (fs := dueF cs xs hop j) (by omega) (s7 := .fz (oI x.e)) (s9 := s9)
    rw [hmb'] at st
    exact ⟨enF cs xs hop (dueF cs xs hop j) (.fz (.str x.n)) (.fz (oS x.p)) (.fz (.str x.c)) (.fz (oI x.s)) (.fz (oI x.e)) s9, _, rfl, .inl st, _, _, _, _, _, s9', by rw [dueF_succ hx0]⟩
  rw [Nat.zero_add, List.length_map] at f1
  rw [seq_nx _ (show mFor (fun E => ((mUn (fldD "Trace" "spans") (mVarT 0)) E).bind tupOf) _ mb (enF cs xs hop (clkF cs) .un .un .un .un .un .un) = _ from f1)]
  rfl
end Sx

set_option Elab.async false
set_option linter.all false
set_option maxRecDepth 100000
set_option maxHeartbeats 4000000
namespace Sx
open PySem L2
section
variable {cs : List Ck} {xs : List Spn}
def enQ (cs : List Ck) (xs : List Spn) (q : Int) (ps : List (Int × Int)) (s5 s7 : Sl) : En := [.fz (.lst (cs.map encK)), .fz (.lst (xs.map encS)), .fz (.lst ((nmK cs).map .str)), .fz (.int q), .ow (ps.map encP), s5, .un, s7]
theorem places_ok (h : shortK cs) (hx : shortS xs) (hg : goodS (nmK cs) xs = true) : m__law_places [.lst (cs.map encK), .lst (xs.map encS)] = some (.lst ((PP cs xs).map encP)) := by
  obtain ⟨hn, hl⟩ := h
  obtain ⟨hxn, hxl⟩ := hx
  have nl : (nmK cs).length ≤ 100000 := by unfold nmK; rw [List.length_map]; omega
  unfold m__law_places callM b__law_places
  show run (mSeq _ _ [.fz (.lst (cs.map encK)), .fz (.lst (xs.map encS)), .un, .un, .un, .un, .un, .un]) = _
  have c1 : mComp [6] (fun E => ((mVarT 0) E).bind lstOf) (gM 6) mYes (mBin ixD (mVarT 6) (mC (.int 0))) [.fz (.lst (cs.map encK)), .fz (.lst (xs.map encS)), .un, .un, .un, .un, .un, .un] = some ((nmK cs).map .str) :=
    mComp_at (ds := cs.map encK) rfl (by rw [List.length_map]; omega) (comp_nm cs fun c _ => ⟨_, rfl, rfl⟩)
  refine mat_nx [.fz (.lst (cs.map encK)), .fz (.lst (xs.map encS)), .fz (.lst ((nmK cs).map .str)), .un, .un, .un, .un, .un] (by show (((mComp _ _ _ _ _ _).map D.lst).map _) = _; rw [c1]; rfl) ?_
  refine mat_nx [.fz (.lst (cs.map encK)), .fz (.lst (xs.map encS)), .fz (.lst ((nmK cs).map .str)), .fz (.int (1 + (cs.length : Int))), .un, .un, .un, .un] (by show some (Out.nx _) = _; rw [List.length_map]; rfl) ?_
  refine mat_nx (enQ cs xs (1 + (cs.length : Int)) [] .un .un) rfl ?_
  generalize hmb : mIfS (fun E => ((mBin ixD (mVarT 5) (mC (.int 3))) E).map isN) _ _ = mb
  obtain ⟨E', f1, s5, s7, rfl⟩ := runFor_inv (mg := gM 5) (mb := mb) (fun j E => ∃ s5 s7, E = enQ cs xs (fin (1 + (cs.length : Int)) (xs.take j)) (plc (nmK cs) (1 + (cs.length : Int)) (xs.take j)) s5 s7) (xs.map encS) 0 (enQ cs xs (1 + (cs.length : Int)) [] .un .un) ⟨_, _, rfl⟩ fun j d E hd hI => by
    obtain ⟨s5, s7, rfl⟩ := hI
    obtain ⟨x, rfl, hx0⟩ := map_at hd
    rw [Nat.zero_add]
    have ok := goodS_at hg hx0
    have hjl := (List.getElem?_eq_some_iff.mp hx0).1
    have tk : xs.take (j + 1) = xs.take j ++ [x] := by rw [List.take_add_one, hx0]; rfl
    have i2 : ixD (encS x) (.int 2) = some (.str x.c) := rfl
    have i3 : ixD (encS x) (.int 3) = some (oI x.s) := rfl
    have i4 : ixD (encS x) (.int 4) = some (oI x.e) := rfl
    have n1 := num_ok nl ok.clk
    have pl : (plc (nmK cs) (1 + (cs.length : Int)) (xs.take j)).length + 10 ≤ 90000 := by rw [plc_len, List.length_take]; omega
    have ev := ok.even
    unfold evenS at ev
    rw [tk, fin_app, plc_app]
    have e1 : ∀ q : Int, plc (nmK cs) q [x] = plc1 (nmK cs) q x := fun q => List.append_nil _
    have e2 : ∀ q : Int, fin q [x] = adv q x := fun q => rfl
    rw [e1, e2]
    generalize plc (nmK cs) (1 + (cs.length : Int)) (xs.take j) = ps at pl ⊢
    generalize fin (1 + (cs.length : Int)) (xs.take j) = q
    have p1 : ps.length < 100000 := by omega
    have p2 : ps.length + 1 < 100000 := by omega
    unfold plc1 adv
    have e3 : 1 + (own (nmK cs) x.c - 1) = own (nmK cs) x.c := by omega
    cases hs : x.s <;> cases he : x.e <;> rw [hs] at i3 ev <;> rw [he] at i4 ev <;> simp at ev
    · refine ⟨_, enQ cs xs (q + 2) (ps ++ [(q, 0), (q + 1, 0)]) (.fz (encS x)) s7, rfl, .inl ?_, _, _, rfl⟩
      subst hmb
      unfold enQ
      simp [-ixD, i3, oI, p1, p2, encP]
    · rename_i a b
      refine ⟨_, enQ cs xs q (ps ++ [(own (nmK cs) x.c, a), (own (nmK cs) x.c, b)]) (.fz (encS x)) (.fz (.int (own (nmK cs) x.c))), rfl, .inl ?_, _, _, rfl⟩
      subst hmb
      unfold enQ
      simp [-ixD, i2, i3, i4, oI, p1, p2, n1, e3, encP]
  rw [Nat.zero_add, List.length_map, List.take_length] at f1
  exact mat_for (xs.map encS) _ rfl f1 rfl
end
theorem ixP {P : List (Int × Int)} {i : Nat} (h : i < P.length) : ixD (.lst (P.map encP)) (.int (i : Int)) = some (encP (P.getD i (0, 0))) := by
  show atI (P.map encP) (i : Int) = _
  rw [atI_nat, pl_at h]
section
variable {cs : List Ck} {xs : List Spn} {leap : Int}
def enD (cs : List Ck) (xs : List Spn) (leap : Int) (fs : List F4) (s4 s7 s8 s10 s11 s12 : Sl) : En := [.fz (.lst (cs.map encK)), .fz (.lst (xs.map encS)), .fz (.int leap), .ow (fs.map encF), s4, .fz (.lst ((PP cs xs).map encP)), .fz (.lst ((nmS xs).map .str)), s7, s8, .un, s10, s11, s12]
def duB : En → Option Out := (mSeq (mSet 7 (mBin ixD (mVarT 5) (mBin (intOpC mulOk fun i j => .int (i * j)) (mC (.int 2)) (mVarT 4))))
      (mSeq (mSet 8 (mBin ixD (mVarT 5) (mBin addD (mBin (intOpC mulOk fun i j => .int (i * j)) (mC (.int 2)) (mVarT 4)) (mC (.int 1)))))
      (mSeq (mIfS (fun E => ((mBin ixD (mBin ixD (mVarT 1) (mVarT 4)) (mC (.int 3))) E).map isN) (mApp 3 (mTup (mCons (mBin ixD (mVarT 7) (mC (.int 0))) (mCons (mBin ixD (mVarT 8) (mC (.int 0))) (mCons (mC (.int 0)) (mCons (mC .non) mNil)))))) mNext)
      (mIfS (fun E => ((mBin ixD (mBin ixD (mVarT 1) (mVarT 4)) (mC (.int 1))) E).map (fun d => !isN d)) (mSeq (mSet 10 (mCall 2 m__law_number_of (mCons (mVar 6) (mCons (mBin ixD (mBin ixD (mVarT 1) (mVarT 4)) (mC (.int 1))) mNil))))
      (mSeq (mSet 11 (mVar 2))
      (mSeq (mIfS (fun E => ((mBin eqD (mBin ixD (mBin ixD (mVarT 1) (mVarT 10)) (mC (.int 2))) (mBin ixD (mBin ixD (mVarT 1) (mVarT 4)) (mC (.int 2)))) E).bind blOf) (mSet 11 (mC (.int 0))) mNext)
      (mSeq (mSet 12 (mBin ixD (mVarT 5) (mBin (intOpC mulOk fun i j => .int (i * j)) (mC (.int 2)) (mVarT 10))))
      (mSeq (mIfS (fun E => ((mBin neD (mBin ixD (mVarT 12) (mC (.int 0))) (mBin ixD (mVarT 7) (mC (.int 0)))) E).bind blOf) (mApp 3 (mTup (mCons (mBin ixD (mVarT 12) (mC (.int 0))) (mCons (mBin ixD (mVarT 7) (mC (.int 0))) (mCons (mBin (intOp fun i j => .int (i - j)) (mBin addD (mVarT 11) (mBin ixD (mVarT 12) (mC (.int 1)))) (mBin ixD (mVarT 7) (mC (.int 1)))) (mCons (mC .non) mNil)))))) mNext)
      (mSeq (mSet 12 (mBin ixD (mVarT 5) (mBin addD (mBin (intOpC mulOk fun i j => .int (i * j)) (mC (.int 2)) (mVarT 10)) (mC (.int 1)))))
      (mIfS (fun E => ((mBin neD (mBin ixD (mVarT 12) (mC (.int 0))) (mBin ixD (mVarT 8) (mC (.int 0)))) E).bind blOf) (mApp 3 (mTup (mCons (mBin ixD (mVarT 8) (mC (.int 0))) (mCons (mBin ixD (mVarT 12) (mC (.int 0))) (mCons (mBin (intOp fun i j => .int (i - j)) (mBin addD (mVarT 11) (mBin ixD (mVarT 8) (mC (.int 1)))) (mBin ixD (mVarT 12) (mC (.int 1)))) (mCons (mC .non) mNil)))))) mNext))))))) mNext))))
theorem plc_none {ns : List Str} : ∀ {xs : List Spn} {k : Nat} {x : Spn} {q : Int}, xs[k]? = some x → x.s = none → (plc ns q xs).getD (2 * k + 1) (0, 0) = (((plc ns q xs).getD (2 * k) (0, 0)).1 + 1, 0) ∧ ((plc ns q xs).getD (2 * k) (0, 0)).2 = 0
  | [], k, x, q, h, _ => by simp at h
  | y :: xs, 0, x, q, h, e => by
    have h : y = x := by simpa using h
    subst h
    show (plc1 ns q y ++ _).getD 1 (0, 0) = (((plc1 ns q y ++ _).getD 0 (0, 0)).1 + 1, 0) ∧ ((plc1 ns q y ++ _).getD 0 (0, 0)).2 = 0
    unfold plc1
    rw [e]
    exact ⟨rfl, rfl⟩
  | y :: xs, k + 1, x, q, h, e => by
    have ih := plc_none (ns := ns) (q := adv q y) (show xs[k]? = some x by simpa using h) e
    have l2 := plc1_len ns q y
    have g : ∀ i : Nat, (plc ns q (y :: xs)).getD (i + 2) (0, 0) = (plc ns (adv q y) xs).getD i (0, 0) := fun i => by
      show (plc1 ns q y ++ plc ns (adv q y) xs).getD (i + 2) (0, 0) = _
      rw [List.getD_eq_getElem?_getD, List.getD_eq_getElem?_getD, List.getElem?_append_right (by omega), l2]
      rfl
    rw [show 2 * (k + 1) + 1 = (2 * k + 1) + 2 by omega, show 2 * (k + 1) = 2 * k + 2 by omega, g, g]
    exact ih
theorem du_step (hg : goodS (nmK cs) xs = true) (hxn : xs.length ≤ 1000) {k : Nat} {x : Spn} (hk : xs[k]? = some x) {fs : List F4} (hl : fs.length + 10 ≤ 90000) {s7 s8 s10 s11 s12 : Sl} : ∃ s7' s8' s10' s11' s12', duB (enD cs xs leap fs (.fz (.int k)) s7 s8 s10 s11 s12) = some (.nx (enD cs xs leap (fs ++ stepF (PP cs xs) xs leap k x) (.fz (.int k)) s7' s8' s10' s11' s12')) := by
  have hkl := (List.getElem?_eq_some_iff.mp hk).1
  have nl : (nmS xs).length ≤ 100000 := by unfold nmS; rw [List.length_map]; omega
  have g0 := ix_map (f := encS) hk
  have pl : (PP cs xs).length = 2 * xs.length := plc_len ..
  have gs := ixP (P := PP cs xs) (i := 2 * k) (by omega)
  have ge := ixP (P := PP cs xs) (i := 2 * k + 1) (by omega)
  have c1 : ((2 * k : Nat) : Int) = 2 * (k : Int) := by omega
  have c2 : ((2 * k + 1 : Nat) : Int) = 2 * (k : Int) + 1 := by omega
  rw [c1] at gs
  rw [c2] at ge
  have i1 : ixD (encS x) (.int 1) = some (oS x.p) := rfl
  have i2 : ixD (encS x) (.int 2) = some (.str x.c) := rfl
  have i3 : ixD (encS x) (.int 3) = some (oI x.s) := rfl
  have e0 : ∀ p : Int × Int, ixD (encP p) (.int 0) = some (.int p.1) := fun p => rfl
  have e1 : ∀ p : Int × Int, ixD (encP p) (.int 1) = some (.int p.2) := fun p => rfl
  have m2 : ∀ j : Int, mulOk 2 j = true := fun j => mulOk_l (by omega)
  have q1 : fs.length < 100000 := by omega
  have q2 : fs.length + 1 < 100000 := by omega
  have q3 : fs.length + 1 + 1 < 100000 := by omega
  have sE : (PP cs xs).getD (2 * k) (0, 0) = SK (PP cs xs) k := rfl
  have tE : (PP cs xs).getD (2 * k + 1) (0, 0) = TK (PP cs xs) k := rfl
  rw [sE] at gs
  rw [tE] at ge
  have pn : ∀ h : x.s = none, laterF (SK (PP cs xs) k) (TK (PP cs xs) k) 0 = [((SK (PP cs xs) k).1, (TK (PP cs xs) k).1, 0, none)] := fun h => by
    obtain ⟨a1, a2⟩ := plc_none (ns := nmK cs) (q := 1 + (cs.length : Int)) hk h
    have b1 : TK (PP cs xs) k = ((SK (PP cs xs) k).1 + 1, 0) := a1
    have b2 : (SK (PP cs xs) k).2 = 0 := a2
    unfold laterF
    rw [b1]
    dsimp only
    rw [if_neg (by omega), b2]
    rfl
  unfold stepF duB
  cases hp : x.p with
  | none =>
    generalize SK (PP cs xs) k = S at gs pn ⊢
    generalize TK (PP cs xs) k = T at ge pn ⊢
    rw [hp] at i1
    have pf : parF (PP cs xs) xs leap k x = [] := by unfold parF; rw [hp]
    rw [pf]
    refine ⟨.fz (encP S), .fz (encP T), s10, s11, s12, ?_⟩
    cases hs : x.s with
    | none =>
      rw [hs] at i3
      rw [pn hs]
      unfold enD
      simp [-ixD, g0, gs, ge, i1, i3, e0, m2, oI, oS, q1, encF]
    | some i =>
      rw [hs] at i3
      unfold enD
      simp [-ixD, g0, gs, ge, i1, i3, e0, m2, oI, oS, q1]
  | some p =>
    rw [hp] at i1
    obtain ⟨j, u, pr⟩ := par_of hg hk hp
    have hju := (List.getElem?_eq_some_iff.mp pr.at_).1
    have hm : p ∈ nmS xs := by
      have := pr.nm
      rw [← this]
      exact List.mem_map_of_mem (List.mem_of_getElem? pr.at_)
    have nj := num_ok nl hm
    have ej : own (nmS xs) p - 1 = (j : Int) := by
      unfold own
      rw [pr.num]
      simp
      omega
    rw [ej] at nj
    have gu := ix_map (f := encS) pr.at_
    have u2 : ixD (encS u) (.int 2) = some (.str u.c) := rfl
    have gsj := ixP (P := PP cs xs) (i := 2 * j) (by omega)
    have gej := ixP (P := PP cs xs) (i := 2 * j + 1) (by omega)
    have d1 : ((2 * j : Nat) : Int) = 2 * (j : Int) := by omega
    have d2 : ((2 * j + 1 : Nat) : Int) = 2 * (j : Int) + 1 := by omega
    rw [d1] at gsj
    rw [d2] at gej
    have sEj : (PP cs xs).getD (2 * j) (0, 0) = SK (PP cs xs) j := rfl
    have tEj : (PP cs xs).getD (2 * j + 1) (0, 0) = TK (PP cs xs) j := rfl
    rw [sEj] at gsj
    rw [tEj] at gej
    have e2 : ∀ a b : Str, eqD (.str a) (.str b) = some (.bl (decide (a = b))) := fun a b => rfl
    have pf : ∃ g : Int, parF (PP cs xs) xs leap k x = laterF (SK (PP cs xs) j) (SK (PP cs xs) k) g ++ laterF (TK (PP cs xs) k) (TK (PP cs xs) j) g ∧ ((u.c = x.c ∧ g = 0) ∨ (¬ u.c = x.c ∧ g = leap)) := by
      refine ⟨if x.c = u.c then 0 else leap, ?_, ?_⟩
      · unfold parF
        rw [hp]
        dsimp only
        rw [pr.num]
        dsimp only
        rw [pr.at_]
      · by_cases h : x.c = u.c
        · exact .inl ⟨h.symm, by rw [if_pos h]⟩
        · exact .inr ⟨fun z => h z.symm, by rw [if_neg h]⟩
    obtain ⟨g, pf, hgap⟩ := pf
    rw [pf]
    generalize SK (PP cs xs) k = S at gs pn ⊢
    generalize TK (PP cs xs) k = T at ge pn ⊢
    generalize SK (PP cs xs) j = S' at gsj ⊢
    generalize TK (PP cs xs) j = T' at gej ⊢
    refine ⟨.fz (encP S), .fz (encP T), .fz (.int j), .fz (.int g), .fz (encP T'), ?_⟩
    have l1 : laterF S' S g = if S'.1 = S.1 then [] else [(S'.1, S.1, g + S'.2 - S.2, none)] := rfl
    have l2 : laterF T T' g = if T'.1 = T.1 then [] else [(T.1, T'.1, g + T.2 - T'.2, none)] := by
      unfold laterF
      by_cases h : T'.1 = T.1
      · rw [if_pos h, if_pos h.symm]
      · rw [if_neg h, if_neg (fun z => h z.symm)]
    rw [l1, l2]
    have fst : ∃ f1 : List F4, f1.length ≤ 1 ∧ (if x.s.isNone = true then laterF S T 0 else []) = f1 ∧ (mIfS (fun E => ((mBin ixD (mBin ixD (mVarT 1) (mVarT 4)) (mC (.int 3))) E).map isN) (mApp 3 (mTup (mCons (mBin ixD (mVarT 7) (mC (.int 0))) (mCons (mBin ixD (mVarT 8) (mC (.int 0))) (mCons (mC (.int 0)) (mCons (mC .non) mNil)))))) mNext) (enD cs xs leap fs (.fz (.int k)) (.fz (encP S)) (.fz (encP T)) s10 s11 s12) = some (.nx (enD cs xs leap (fs ++ f1) (.fz (.int k)) (.fz (encP S)) (.fz (encP T)) s10 s11 s12)) := by
      cases hs : x.s with
      | none =>
        rw [hs] at i3
        refine ⟨[(S.1, T.1, 0, none)], by simp, (by rw [← pn hs]; rfl), ?_⟩
        unfold enD
        simp [-ixD, g0, i3, e0, oI, q1, encF]
      | some i =>
        rw [hs] at i3
        refine ⟨[], by simp, by rw [if_neg (by simp)], ?_⟩
        unfold enD
        simp [-ixD, g0, i3, e0, oI, q1]
    obtain ⟨f1, fl, fe, fr⟩ := fst
    rw [fe]
    rw [seq_nx (enD cs xs leap fs (.fz (.int k)) (.fz (encP S)) s8 s10 s11 s12) (by unfold enD; simp [-ixD, gs, m2]), seq_nx (enD cs xs leap fs (.fz (.int k)) (.fz (encP S)) (.fz (encP T)) s10 s11 s12) (by unfold enD; simp [-ixD, ge, m2]), seq_nx _ fr]
    have r1 : (fs ++ f1).length < 100000 := by rw [List.length_append]; omega
    have r2 : (fs ++ f1).length + 1 < 100000 := by rw [List.length_append]; omega
    rw [← List.append_assoc]
    generalize fs ++ f1 = gs' at r1 r2 ⊢
    rcases hgap with ⟨hc, rfl⟩ | ⟨hc, rfl⟩
    · by_cases h1 : S'.1 = S.1 <;> by_cases h2 : T'.1 = T.1 <;> unfold enD <;> simp [-ixD, -eqD, g0, gu, gsj, gej, i1, i2, u2, e0, e1, e2, m2, oI, oS, nj, hc, h1, h2, r1, r2, encF]
    · by_cases h1 : S'.1 = S.1 <;> by_cases h2 : T'.1 = T.1 <;> unfold enD <;> simp [-ixD, -eqD, g0, gu, gsj, gej, i1, i2, u2, e0, e1, e2, m2, oI, oS, nj, hc, h1, h2, r1, r2, encF]
end
end Sx

set_option Elab.async false
set_option linter.all false
set_option maxRecDepth 100000
set_option maxHeartbeats 4000000
namespace Sx
open PySem L2
theorem clkF_at {cs : List Ck} {j : Nat} {c : Ck} (h : cs[j]? = some c) : (clkF cs)[j]? = some ((0 : Int), (j : Int) + 1, -c.2, some c.2) := by
  unfold clkF
  rw [List.getElem?_map, List.getElem?_zipIdx, h]
  simp
theorem clkF_len (cs : List Ck) : (clkF cs).length = cs.length := by
  unfold clkF
  rw [List.length_map, List.length_zipIdx]
theorem law_due_ok {cs : List Ck} {xs : List Spn} {hop hop0 : Int} (h : shortK cs) (hx : shortS xs) (hg : goodAll cs xs hop0 = true) : m__law_due [.lst (cs.map encK), .lst (xs.map encS), .int hop] = some (.lst ((dueF cs xs hop xs.length).map encF)) := by
  obtain ⟨gk, _, gs⟩ := goodAll_parts hg
  obtain ⟨_, k1, k6⟩ := goodK_nd gk
  have plo := places_ok h hx gs
  obtain ⟨hn, hl⟩ := h
  obtain ⟨hxn, hxl⟩ := hx
  unfold m__law_due callM b__law_due
  show run (mSeq _ _ [.fz (.lst (cs.map encK)), .fz (.lst (xs.map encS)), .fz (.int hop), .un, .un, .un, .un, .un, .un, .un, .un, .un, .un]) = _
  refine mat_nx [.fz (.lst (cs.map encK)), .fz (.lst (xs.map encS)), .fz (.int hop), .ow [], .un, .un, .un, .un, .un, .un, .un, .un, .un] rfl ?_
  generalize hmb : mApp 3 (mTup (mCons (mC (.int 0)) (mCons (mBin addD (mVarT 4) (mC (.int 1))) _))) = mb
  obtain ⟨E', f1, s4, rfl⟩ := runFor_inv (mg := gM 4) (mb := mb) (fun j E => ∃ s4, E = [.fz (.lst (cs.map encK)), .fz (.lst (xs.map encS)), .fz (.int hop), .ow (((clkF cs).take j).map encF), s4, .un, .un, .un, .un, .un, .un, .un, .un]) (rangeD 0 cs.length) 0 [.fz (.lst (cs.map encK)), .fz (.lst (xs.map encS)), .fz (.int hop), .ow [], .un, .un, .un, .un, .un, .un, .un, .un, .un] ⟨_, rfl⟩ fun j d E hd hI => by
    obtain ⟨s4, rfl⟩ := hI
    obtain ⟨rfl, hj⟩ := range_at hd
    rw [Nat.zero_add, show (0 + (j : Int)) = (j : Int) by omega]
    have hc0 : cs[j]? = some cs[j] := List.getElem?_eq_getElem hj
    have g0 := ix_map (f := encK) hc0
    have e1 : ixD (encK cs[j]) (.int 1) = some (.int cs[j].2) := rfl
    have tl : ((clkF cs).take j).length < 100000 := by rw [List.length_take]; omega
    have tk : (clkF cs).take (j + 1) = (clkF cs).take j ++ [((0 : Int), (j : Int) + 1, -cs[j].2, some cs[j].2)] := by rw [List.take_add_one, clkF_at hc0]; rfl
    rw [tk]
    generalize (clkF cs).take j = fs at tl ⊢
    refine ⟨_, [.fz (.lst (cs.map encK)), .fz (.lst (xs.map encS)), .fz (.int hop), .ow ((fs ++ [((0 : Int), (j : Int) + 1, -cs[j].2, some cs[j].2)]).map encF), .fz (.int j), .un, .un, .un, .un, .un, .un, .un, .un], rfl, .inl ?_, _, rfl⟩
    subst hmb
    simp [-ixD, g0, e1, tl, encF, oI]
  rw [Nat.zero_add, rangeD_len, show cs.length = (clkF cs).length from (clkF_len cs).symm, List.take_length] at f1
  rw [clkF_len] at f1
  have q1 : (cs.length : Int) ≤ 100000 := by omega
  have q2 : (-100000 : Int) ≤ (cs.length : Int) := by omega
  have q3 : (xs.length : Int) ≤ 100000 := by omega
  have q4 : (-100000 : Int) ≤ (xs.length : Int) := by omega
  refine mat_for (rangeD 0 cs.length) _ (by simp [q1, q2]) f1 ?_
  refine mat_nx [.fz (.lst (cs.map encK)), .fz (.lst (xs.map encS)), .fz (.int hop), .ow ((clkF cs).map encF), s4, .fz (.lst ((PP cs xs).map encP)), .un, .un, .un, .un, .un, .un, .un] (by simp [plo]) ?_
  have c1 : mComp [9] (fun E => ((mVarT 1) E).bind lstOf) (gM 9) mYes (mBin ixD (mVarT 9) (mC (.int 0))) [.fz (.lst (cs.map encK)), .fz (.lst (xs.map encS)), .fz (.int hop), .ow ((clkF cs).map encF), s4, .fz (.lst ((PP cs xs).map encP)), .un, .un, .un, .un, .un, .un, .un] = some ((nmS xs).map .str) := by
    refine mComp_at (ds := xs.map encS) rfl (by rw [List.length_map]; omega) ?_
    obtain ⟨ys, r1, r2⟩ := runComp_enc (mg := gM 9) (mt := mYes) (me := mBin ixD (mVarT 9) (mC (.int 0))) (E0 := wipeE [.fz (.lst (cs.map encK)), .fz (.lst (xs.map encS)), .fz (.int hop), .ow ((clkF cs).map encF), s4, .fz (.lst ((PP cs xs).map encP)), .un, .un, .un, .un, .un, .un, .un] [9]) encS D.str (fun x s => s = x.n) xs fun x _ => ⟨_, _, rfl, rfl, rfl, rfl⟩
    rw [r1, Paired.fn r2]
    rfl
  refine mat_nx (enD cs xs hop (clkF cs) s4 .un .un .un .un .un) (by show (((mComp _ _ _ _ _ _).map D.lst).map _) = _; rw [c1]; rfl) ?_
  generalize hmb2 : mSeq (mSet 7 (mBin ixD (mVarT 5) _)) _ = mb2
  have hmb2' : duB = mb2 := hmb2
  obtain ⟨E', f2, s4', s7, s8, s10, s11, s12, rfl⟩ := runFor_inv (mg := gM 4) (mb := mb2) (fun j E => ∃ s4 s7 s8 s10 s11 s12, E = enD cs xs hop (dueF cs xs hop j) s4 s7 s8 s10 s11 s12) (rangeD 0 xs.length) 0 (enD cs xs hop (clkF cs) s4 .un .un .un .un .un) ⟨_, _, _, _, _, _, by
      unfold dueF
      rw [List.range_zero, List.flatMap_nil, List.append_nil]⟩ fun j d E hd hI => by
    obtain ⟨s4, s7, s8, s10, s11, s12, rfl⟩ := hI
    obtain ⟨rfl, hj⟩ := range_at hd
    rw [Nat.zero_add, show (0 + (j : Int)) = (j : Int) by omega]
    have hx0 : xs[j]? = some xs[j] := List.getElem?_eq_getElem hj
    have hl := dueF_len cs xs hop j
    obtain ⟨s7', s8', s10', s11', s12', st⟩ := du_step (leap := hop) gs hxn hx0 (fs := dueF cs xs hop j) (by omega) (s7 := s7) (s8 := s8) (s10 := s10) (s11 := s11) (s12 := s12)
    rw [hmb2'] at st
    exact ⟨enD cs xs hop (dueF cs xs hop j) (.fz (.int j)) s7 s8 s10 s11 s12, _, rfl, .inl st, _, _, _, _, _, _, by rw [dueF_succ hx0]⟩
  rw [Nat.zero_add, rangeD_len] at f2
  exact mat_for (rangeD 0 xs.length) _ (by unfold enD; simp [q3, q4]) f2 rfl
end Sx

set_option Elab.async false
set_option linter.all false
set_option maxRecDepth 100000
set_option maxHeartbeats 4000000
namespace Sx
open PySem L2
/-! ### the same -/
mutual
def plD : D → Bool
  | .non => true
  | .int _ => true
  | .str _ => true
  | .lst ds => decide (ds.length ≤ 100000) && plDs ds
  | .tup ds => decide (ds.length ≤ 100000) && plDs ds
  | _ => false
def plDs : List D → Bool
  | [] => true
  | d :: ds => plD d && plDs ds
end
theorem plDs_at : ∀ {ds : List D} {i : Nat} {d : D}, plDs ds = true → ds[i]? = some d → plD d = true
  | [], i, d, _, h => by simp at h
  | e :: ds, 0, d, h, g => by
    rw [plDs, Bool.and_eq_true] at h
    have g : e = d := by simpa using g
    rw [← g]
    exact h.1
  | e :: ds, i + 1, d, h, g => by
    rw [plDs, Bool.and_eq_true] at h
    exact plDs_at h.2 (by simpa using g)
theorem depDs_at : ∀ {ds : List D} {i : Nat} {d : D}, ds[i]? = some d → depD d ≤ depDs ds
  | [], i, d, h => by simp at h
  | e :: ds, 0, d, g => by
    have g : e = d := by simpa using g
    rw [depDs, ← g]
    omega
  | e :: ds, i + 1, d, g => by
    have := depDs_at (ds := ds) (i := i) (d := d) (by simpa using g)
    rw [depDs]
    omega
theorem is_num (i : Int) : m__law_is_number [.int i] = some (.bl true) := by
  have k1 : kitB "int" "int" = some true := kit_ii
  have k2 : kitB "int" "bool" = some false := kit_ib
  unfold m__law_is_number callM b__law_is_number
  simp [k1, k2]
theorem kit_sl : kitB "str" "list" = some false := by decide +kernel
theorem kit_st : kitB "str" "tuple" = some false := by decide +kernel
theorem kit_ss : kitB "str" "str" = some true := by decide +kernel
theorem kit_il : kitB "int" "list" = some false := by decide +kernel
theorem kit_it : kitB "int" "tuple" = some false := by decide +kernel
theorem kit_is : kitB "int" "str" = some false := by decide +kernel
theorem kit_nl : kitB "NoneType" "list" = some false := by decide +kernel
theorem kit_nt : kitB "NoneType" "tuple" = some false := by decide +kernel
theorem kit_ll : kitB "list" "list" = some true := by decide +kernel
theorem kit_lt : kitB "list" "tuple" = some false := by decide +kernel
theorem kit_tl : kitB "tuple" "list" = some false := by decide +kernel
theorem kit_tt : kitB "tuple" "tuple" = some true := by decide +kernel
theorem same_seq {mr : List D → Option D} {d : D} {ds : List D} (hd : d = .lst ds ∨ d = .tup ds) (hl : ds.length ≤ 100000) (h : ∀ (i : Nat) (e : D), ds[i]? = some e → mr [e, e] = some (.bl true)) : callM 2 3 (b__law_same mr) [d, d] = some (.bl true) := by
  have hix : ∀ i : Nat, ixD d (.int (i : Int)) = ds[i]? := fun i => by
    rcases hd with rfl | rfl <;> (show atI ds (i : Int) = _; rw [atI_nat])
  have hlen : lenD d = some (.int (ds.length : Int)) := by rcases hd with rfl | rfl <;> rfl
  have hT : isiT ["list", "tuple"] d = some (.bl true) := by
    rcases hd with rfl | rfl <;> simp [kit_ll, kit_lt, kit_tl, kit_tt]
  have hL : ∃ b, isiD "list" d = some (.bl b) := by
    rcases hd with rfl | rfl
    · exact ⟨true, by simp [kit_ll]⟩
    · exact ⟨false, by simp [kit_tl]⟩
  have hU : ∃ b, isiD "tuple" d = some (.bl b) := by
    rcases hd with rfl | rfl
    · exact ⟨false, by simp [kit_lt]⟩
    · exact ⟨true, by simp [kit_tt]⟩
  obtain ⟨b1, hL⟩ := hL
  obtain ⟨b2, hU⟩ := hU
  unfold callM b__law_same
  generalize hmb : mIfS (mNot _) _ mNext = mb
  obtain ⟨E', f1, s, rfl⟩ := runFor_inv (mg := gM 2) (mb := mb) (fun j E => ∃ s, E = [.fz d, .fz d, s]) (rangeD 0 ds.length) 0 [.fz d, .fz d, .un] ⟨_, rfl⟩ fun j e E hd' hI => by
    obtain ⟨s, rfl⟩ := hI
    obtain ⟨rfl, hj⟩ := range_at hd'
    rw [show (0 + (j : Int)) = (j : Int) by omega]
    have g := hix j
    rw [List.getElem?_eq_getElem hj] at g
    have r := h j ds[j] (List.getElem?_eq_getElem hj)
    refine ⟨_, [.fz d, .fz d, .fz (.int j)], rfl, .inl ?_, _, rfl⟩
    subst hmb
    simp [-ixD, g, r]
  have q1 : (ds.length : Int) ≤ 100000 := by omega
  have q2 : (-100000 : Int) ≤ (ds.length : Int) := by omega
  simp [-isiT, -isiD, -lenD, hT, hL, hU, hlen, q1, q2, f1]
theorem same_ok : ∀ (n : Nat) (d : D), plD d = true → depD d < n → mr__law_same n [d, d] = some (.bl true)
  | 0, d, _, h => by omega
  | n + 1, d, hp, hd => by
    show callM 2 3 (b__law_same (mr__law_same n)) [d, d] = _
    cases d with
    | non => unfold callM b__law_same; simp [kit_nl, kit_nt]
    | int i =>
      have := is_num i
      unfold callM b__law_same
      simp [kit_il, kit_it, kit_is, this]
    | str s => unfold callM b__law_same; simp [kit_sl, kit_st, kit_ss]
    | lst ds =>
      rw [plD, Bool.and_eq_true] at hp
      rw [depD] at hd
      exact same_seq (.inl rfl) (of_decide_eq_true hp.1) fun i e he => same_ok n e (plDs_at hp.2 he) (by have := depDs_at he; omega)
    | tup ds =>
      rw [plD, Bool.and_eq_true] at hp
      rw [depD] at hd
      exact same_seq (.inr rfl) (of_decide_eq_true hp.1) fun i e he => same_ok n e (plDs_at hp.2 he) (by have := depDs_at he; omega)
    | _ => cases hp
theorem plDs_map {α : Type} {f : α → D} : ∀ {xs : List α}, (∀ x ∈ xs, plD (f x) = true) → plDs (xs.map f) = true
  | [], _ => rfl
  | x :: xs, h => by
    rw [List.map_cons, plDs, h x (List.mem_cons_self ..), plDs_map fun y hy => h y (List.mem_cons_of_mem _ hy)]
    rfl
theorem plK (c : Ck) : plD (encK c) = true := rfl
theorem plS (x : Spn) : plD (encS x) = true := by
  obtain ⟨n, p, c, s, e⟩ := x
  cases p <;> cases s <;> cases e <;> rfl
theorem plF (f : F4) : plD (encF f) = true := by
  obtain ⟨a, b, c, d⟩ := f
  cases d <;> rfl
theorem dpK (c : Ck) : depD (encK c) ≤ 1 := by
  unfold encK
  simp [depD, depDs]
theorem dpS (x : Spn) : depD (encS x) ≤ 1 := by
  obtain ⟨n, p, c, s, e⟩ := x
  cases p <;> cases s <;> cases e <;> simp [encS, oS, oI, depD, depDs]
theorem dpF (f : F4) : depD (encF f) ≤ 1 := by
  obtain ⟨a, b, c, d⟩ := f
  cases d <;> simp [encF, oI, depD, depDs]
end Sx

set_option Elab.async false
set_option linter.all false
set_option maxRecDepth 100000
set_option maxHeartbeats 4000000
namespace Sx
open PySem L2
def txtK (cs : List Ck) : Prop := ∀ c ∈ cs, PyData.strOk c.1 = true
def txtS (xs : List Spn) : Prop := ∀ x ∈ xs, PyData.strOk x.n = true ∧ PyData.strOk x.c = true ∧ ∀ p, x.p = some p → PyData.strOk p = true
theorem okK {cs : List Ck} (h : txtK cs) : ∀ c ∈ cs, okD (encK c) = true := fun c hc => by
  unfold encK
  simp [okD, okDs, h c hc]
theorem okSp {xs : List Spn} (h : txtS xs) : ∀ x ∈ xs, okD (encS x) = true := fun x hx => by
  obtain ⟨h1, h2, h3⟩ := h x hx
  obtain ⟨n, p, c, s, e⟩ := x
  cases p with
  | none => cases s <;> cases e <;> simp [encS, oS, oI, okD, okDs] <;> exact ⟨h1, h2⟩
  | some p =>
    have := h3 p rfl
    cases s <;> cases e <;> simp [encS, oS, oI, okD, okDs] <;> exact ⟨h1, this, h2⟩
theorem eqK {cs : List Ck} (h : txtK cs) : eqB (.lst (cs.map encK)) (.lst (cs.map encK)) = some true := eqB_map (okK h) fun c _ => Nat.le_trans (dpK c) (by decide)
theorem eqS {xs : List Spn} (h : txtS xs) : eqB (.lst (xs.map encS)) (.lst (xs.map encS)) = some true := eqB_map (okSp h) fun c _ => Nat.le_trans (dpS c) (by decide)
theorem callXL_at {n : Nat} {m : List D → Option RX} {a : En → Option (List D)} {E : En} {ds : List D} {d : D} (h : a E = some ds) (hl : ds.length = n) (hm : m ds = some (.ok d)) (hn : nol d = true) : mCallXL n m a E = some (.ok d) := by
  show (a E).bind _ = _
  rw [h]
  dsimp only [Option.bind_some]
  rw [if_pos hl, hm]
  dsimp only [Option.bind_some]
  rw [if_pos hn]
theorem callXL_ex {n : Nat} {m : List D → Option RX} {a : En → Option (List D)} {E : En} {ds : List D} {x : Str} (h : a E = some ds) (hl : ds.length = n) (hm : m ds = some (.ex x)) : mCallXL n m a E = some (.ex x) := by
  show (a E).bind _ = _
  rw [h]
  dsimp only [Option.bind_some]
  rw [if_pos hl, hm]
  rfl
theorem nols_map {α : Type} {f : α → D} : ∀ {xs : List α}, (∀ x ∈ xs, nol (f x) = true) → nols (xs.map f) = true
  | [], _ => by rw [List.map_nil, nols]
  | x :: xs, h => by
    rw [List.map_cons, nols, h x (List.mem_cons_self ..), nols_map fun y hy => h y (List.mem_cons_of_mem _ hy)]
    rfl
theorem nolK (c : Ck) : nol (encK c) = true := by simp [encK]
theorem nolSp (x : Spn) : nol (encS x) = true := by
  obtain ⟨n, p, c, s, e⟩ := x
  cases p <;> cases s <;> cases e <;> simp [encS, oS, oI]
theorem nolP (p : Int × Int) : nol (encP p) = true := by simp [encP]
theorem nol_trace (cs : List Ck) (xs : List Spn) (hop : Int) : nol (traceD cs xs hop) = true := by
  have h1 := nols_map (f := encK) (xs := cs) fun c _ => nolK c
  have h2 := nols_map (f := encS) (xs := xs) fun c _ => nolSp c
  have h3 := nols_map (f := encP) (xs := plc (nmK cs) (1 + (cs.length : Int)) xs) fun c _ => nolP c
  unfold traceD
  simp [h1, h2, h3]
theorem callM_of_F {n N : Nat} {b : En → Option Out} {ds es : List D} (h : callF n N b ds = some es) : callM n N b ds = some (.lst es) := by
  unfold callF at h
  unfold callM
  split at h
  · rename_i es' e
    rw [e]
    cases h
    rfl
  · cases h
theorem trace_facts_m {cs : List Ck} {xs : List Spn} {hop hop0 : Int} (hx : shortS xs) (hg : goodAll cs xs hop0 = true) : m_trace_facts [traceD cs xs hop] = some (.lst ((dueF cs xs hop xs.length).map encF)) := callM_of_F (trace_facts_ok hx hg)
theorem due_len {cs : List Ck} {xs : List Spn} {leap : Int} (hk : cs.length ≤ 6) (hx : xs.length ≤ 1000) : ((dueF cs xs leap xs.length).map encF).length ≤ 100000 := by
  have := dueF_len cs xs leap xs.length
  rw [List.length_map]
  omega
theorem same_due {cs : List Ck} {xs : List Spn} {leap : Int} (hk : cs.length ≤ 6) (hx : xs.length ≤ 1000) : m__law_same [.lst ((dueF cs xs leap xs.length).map encF), .lst ((dueF cs xs leap xs.length).map encF)] = some (.bl true) := by
  refine same_ok 8 _ ?_ ?_
  · rw [plD, decide_eq_true (due_len hk hx), plDs_map fun f _ => plF f]
    rfl
  · rw [depD]
    have := depDs_map (f := encF) (n := 1) (xs := dueF cs xs leap xs.length) fun f _ => dpF f
    omega
theorem same_kept {cs : List Ck} {xs : List Spn} (hk : cs.length ≤ 6) (hx : xs.length ≤ 1000) : m__law_same [.tup [.tup (cs.map encK), .tup (xs.map encS)], .tup [.tup (cs.map encK), .tup (xs.map encS)]] = some (.bl true) := by
  have d1 := depDs_map (f := encK) (n := 1) (xs := cs) fun f _ => dpK f
  have d2 := depDs_map (f := encS) (n := 1) (xs := xs) fun f _ => dpS f
  refine same_ok 8 _ ?_ ?_
  · have l1 : (cs.map encK).length ≤ 100000 := by rw [List.length_map]; omega
    have l2 : (xs.map encS).length ≤ 100000 := by rw [List.length_map]; omega
    have p1 := plDs_map (f := encK) (xs := cs) fun f _ => plK f
    have p2 := plDs_map (f := encS) (xs := xs) fun f _ => plS f
    rw [plD, plDs, plDs, plDs, plD, plD, decide_eq_true l1, decide_eq_true l2, p1, p2]
    rfl
  · rw [depD, depDs, depDs, depDs, depD, depD]
    omega
theorem same_int (i : Int) : m__law_same [.int i, .int i] = some (.bl true) := same_ok 8 _ rfl (by simp [depD])
theorem refused_ok {cs : List Ck} {xs : List Spn} {leap : Int} (h : shortK cs) (hx : shortS xs) (tk : txtK cs) (ts : txtS xs) (hg : goodAll cs xs leap = false) : m__law_refused [shapeD cs xs leap] = some (.bl true) := by
  have mi := mi_ok (hop := leap) h hx
  rw [hg, if_neg Bool.false_ne_true] at mi
  have j0 : ixD (shapeD cs xs leap) (.int 0) = some (.lst (cs.map encK)) := rfl
  have j1 : ixD (shapeD cs xs leap) (.int 1) = some (.lst (xs.map encS)) := rfl
  have ek := eqK tk
  have es := eqS ts
  unfold m__law_refused callM b__law_refused
  show run (mSeq _ _ [.fz (shapeD cs xs leap), .un, .un, .un]) = _
  refine mat_nx [.fz (shapeD cs xs leap), .fz (.lst (cs.map encK)), .un, .un] rfl ?_
  refine mat_nx [.fz (shapeD cs xs leap), .fz (.lst (cs.map encK)), .fz (.lst (xs.map encS)), .un] rfl ?_
  have tr : ∀ (mb : En → Option OutX) (ms : Str → Addr → En → Option Out), mb [.fz (shapeD cs xs leap), .fz (.lst (cs.map encK)), .fz (.lst (xs.map encS)), .un] = some (.ex "BadTrace" [.fz (shapeD cs xs leap), .fz (.lst (cs.map encK)), .fz (.lst (xs.map encS)), .un]) →
      (∀ a, ms "BadTrace" a [.fz (shapeD cs xs leap), .fz (.lst (cs.map encK)), .fz (.lst (xs.map encS)), .fz (.err a "BadTrace")] = some (.rt (.bl true))) → (mTry 3 (ktab [("BadTrace", true)]) mb ms [.fz (shapeD cs xs leap), .fz (.lst (cs.map encK)), .fz (.lst (xs.map encS)), .un]).bind outX = some (.rt (.bl true)) := fun mb ms h1 h2 => by
    unfold mTry
    rw [h1]
    dsimp only [Option.bind_some]
    have hk : ktab [("BadTrace", true)] "BadTrace" = some true := by decide +kernel
    rw [hk]
    dsimp only [Option.bind_some]
    rw [if_pos rfl]
    rw [tryRes_eq (o := .rt (.bl true)) fun a => by
      show (ms "BadTrace" a [.fz (shapeD cs xs leap), .fz (.lst (cs.map encK)), .fz (.lst (xs.map encS)), .fz (.err a "BadTrace")]).map (wipeO 3) = _
      rw [h2]
      rfl]
    rfl
  show run (((mTry 3 _ _ _ _).bind outX).bind _) = _
  rw [tr _ _ ?_ ?_]
  · rfl
  · show ((mCallXL 3 mi_Trace _ _).map _) = _
    rw [callXL_ex (n := 3) (x := "BadTrace") (ds := [.lst (cs.map encK), .lst (xs.map encS), .int leap]) rfl rfl mi]
    rfl
  · intro a
    have hk : ktab [("BadTrace", true)] "BadTrace" = some true := by decide +kernel
    simp [-ixD, -eqB, -ktab, j0, j1, ek, es, hk]
theorem good_zero {cs : List Ck} {xs : List Spn} {leap : Int} (h : goodAll cs xs leap = true) : goodAll cs xs 0 = true := by
  obtain ⟨h1, _, h3⟩ := goodAll_parts h
  unfold goodAll
  rw [h1, h3]
  rfl
theorem ne_same {d : D} (h : eqB d d = some true) : neD d d = some (.bl false) := by
  show (eqB d d).map _ = _
  rw [h]
  rfl
theorem made_ok {cs : List Ck} {xs : List Spn} {leap : Int} (h : shortK cs) (hx : shortS xs) (tk : txtK cs) (ts : txtS xs) (hg : goodAll cs xs leap = true) : m__law_made [shapeD cs xs leap] = some (.bl true) := by
  have mi := mi_ok (hop := leap) h hx
  rw [hg, if_pos rfl] at mi
  have mi0 := mi_ok (hop := 0) h hx
  rw [good_zero hg, if_pos rfl] at mi0
  have tf := trace_facts_ok (hop := leap) hx hg
  have tf0 := trace_facts_m (hop := 0) hx hg
  have ld := law_due_ok (hop := leap) h hx hg
  have ld0 := law_due_ok (hop := 0) h hx hg
  obtain ⟨_, _, k6⟩ := goodK_nd (goodAll_parts hg).1
  have hxn := hx.1
  have sd := same_due (leap := leap) k6 hxn
  have sd0 := same_due (leap := 0) k6 hxn
  have sk := same_kept k6 hxn
  have j0 : ixD (shapeD cs xs leap) (.int 0) = some (.lst (cs.map encK)) := rfl
  have j1 : ixD (shapeD cs xs leap) (.int 1) = some (.lst (xs.map encS)) := rfl
  have j2 : ixD (shapeD cs xs leap) (.int 2) = some (.int leap) := rfl
  have nk := ne_same (eqK tk)
  have ns := ne_same (eqS ts)
  have fc : ∀ hop, fldD "Trace" "clocks" (traceD cs xs hop) = some (.tup (cs.map encK)) := fun hop => rfl
  have fs : ∀ hop, fldD "Trace" "spans" (traceD cs xs hop) = some (.tup (xs.map encS)) := fun hop => rfl
  have fh : ∀ hop, fldD "Trace" "hop" (traceD cs xs hop) = some (.int hop) := fun hop => rfl
  unfold m__law_made callM b__law_made
  show run (mSeq _ _ [.fz (shapeD cs xs leap), .un, .un, .un, .un, .un, .un, .un]) = _
  refine mat_nx [.fz (shapeD cs xs leap), .ow (cs.map encK), .un, .un, .un, .un, .un, .un] rfl ?_
  refine mat_nx [.fz (shapeD cs xs leap), .ow (cs.map encK), .ow (xs.map encS), .un, .un, .un, .un, .un] rfl ?_
  refine mat_nx [.fz (shapeD cs xs leap), .ow (cs.map encK), .ow (xs.map encS), .fz (traceD cs xs leap), .un, .un, .un, .un] (by
    show (((mCallXL 3 mi_Trace _ _).bind okX).map _) = _
    rw [callXL_at (n := 3) (ds := [.lst (cs.map encK), .lst (xs.map encS), .int leap]) rfl rfl mi (nol_trace _ _ _)]
    rfl) ?_
  refine mat_nx [.fz (shapeD cs xs leap), .ow (cs.map encK), .ow (xs.map encS), .fz (traceD cs xs leap), .fz (traceD cs xs 0), .un, .un, .un] (by
    show (((mCallXL 3 mi_Trace _ _).bind okX).map _) = _
    rw [callXL_at (n := 3) (ds := [.lst (cs.map encK), .lst (xs.map encS), .int 0]) rfl rfl mi0 (nol_trace _ _ _)]
    rfl) ?_
  refine mat_nx [.fz (shapeD cs xs leap), .ow (cs.map encK), .ow (xs.map encS), .fz (traceD cs xs leap), .fz (traceD cs xs 0), .un, .un, .un] (by simp [-ixD, -neD, j0, j1, nk, ns]) ?_
  have l1 : cs.length < 100000 := by omega
  have l2 : xs.length < 100000 := by omega
  refine mat_nx [.fz (shapeD cs xs leap), .ow (cs.map encK).reverse, .ow (xs.map encS), .fz (traceD cs xs leap), .fz (traceD cs xs 0), .un, .un, .un] rfl ?_
  refine mat_nx [.fz (shapeD cs xs leap), .ow ((cs.map encK).reverse ++ [.tup [.str "t", .int 5]]), .ow (xs.map encS), .fz (traceD cs xs leap), .fz (traceD cs xs 0), .un, .un, .un] (by simp [l1]) ?_
  refine mat_nx [.fz (shapeD cs xs leap), .ow ((cs.map encK).reverse ++ [.tup [.str "t", .int 5]]), .ow (xs.map encS).reverse, .fz (traceD cs xs leap), .fz (traceD cs xs 0), .un, .un, .un] rfl ?_
  refine mat_nx [.fz (shapeD cs xs leap), .ow ((cs.map encK).reverse ++ [.tup [.str "t", .int 5]]), .ow ((xs.map encS).reverse ++ [.tup [.str "t", .non, .str "t", .int 5, .int 4]]), .fz (traceD cs xs leap), .fz (traceD cs xs 0), .un, .un, .un] (by simp [l2]) ?_
  generalize (cs.map encK).reverse ++ [.tup [.str "t", .int 5]] = o1
  generalize (xs.map encS).reverse ++ [.tup [.str "t", .non, .str "t", .int 5, .int 4]] = o2
  refine mat_nx [.fz (shapeD cs xs leap), .ow o1, .ow o2, .fz (traceD cs xs leap), .fz (traceD cs xs 0), .fz (.tup [.tup (cs.map encK), .tup (xs.map encS)]), .un, .un] (by simp [-ixD, j0, j1]) ?_
  refine mat_nx [.fz (shapeD cs xs leap), .ow o1, .ow o2, .fz (traceD cs xs leap), .fz (traceD cs xs 0), .fz (.tup [.tup (cs.map encK), .tup (xs.map encS)]), .un, .un] (by simp [-ixD, -m__law_same, j2, fc, fs, fh, sk, same_int]) ?_
  refine mat_nx [.fz (shapeD cs xs leap), .ow o1, .ow o2, .fz (traceD cs xs leap), .fz (traceD cs xs 0), .fz (.tup [.tup (cs.map encK), .tup (xs.map encS)]), .un, .un] (by simp [-ixD, -m__law_same, j2, fc, fs, fh, sk, same_int]) ?_
  generalize hmb : mSeq (mSetO 7 _) _ = mb
  obtain ⟨E', f1, s6, s7, rfl⟩ := runFor_inv (mg := gM 6) (mb := mb) (fun j E => ∃ s6 s7, E = [.fz (shapeD cs xs leap), .ow o1, .ow o2, .fz (traceD cs xs leap), .fz (traceD cs xs 0), .fz (.tup [.tup (cs.map encK), .tup (xs.map encS)]), s6, s7]) (rangeD 0 2) 0 [.fz (shapeD cs xs leap), .ow o1, .ow o2, .fz (traceD cs xs leap), .fz (traceD cs xs 0), .fz (.tup [.tup (cs.map encK), .tup (xs.map encS)]), .un, .un] ⟨_, _, rfl⟩ fun j d E hd hI => by
    obtain ⟨s6, s7, rfl⟩ := hI
    obtain ⟨rfl, hj⟩ := range_at hd
    refine ⟨[.fz (shapeD cs xs leap), .ow o1, .ow o2, .fz (traceD cs xs leap), .fz (traceD cs xs 0), .fz (.tup [.tup (cs.map encK), .tup (xs.map encS)]), .fz (.int (0 + (j : Int))), s7], [.fz (shapeD cs xs leap), .ow o1, .ow o2, .fz (traceD cs xs leap), .fz (traceD cs xs 0), .fz (.tup [.tup (cs.map encK), .tup (xs.map encS)]), .fz (.int (0 + (j : Int))), .ow [.tup [.int 0, .int 1, .int 7, .int 7]]], rfl, .inl ?_, _, _, rfl⟩
    subst hmb
    generalize ((dueF cs xs leap xs.length).map encF) = L at tf ld sd
    generalize ((dueF cs xs 0 xs.length).map encF) = L0 at tf0 ld0 sd0
    simp [-ixD, -m__law_same, j0, j1, j2, tf, tf0, ld, ld0, sd, sd0, nolst]
  refine mat_for (rangeD 0 2) _ (by simp) f1 rfl
end Sx

set_option Elab.async false
set_option linter.all false
set_option maxRecDepth 100000
set_option maxHeartbeats 4000000
namespace Sx
open PySem L2
/-! ### drawn names -/
abbrev sSp : Str := "opqrsuvwxyz"
abbrev sCm : Str := "abcdefghijklm0123456789"
theorem cl_sp : cl sSp = [111, 112, 113, 114, 115, 117, 118, 119, 120, 121, 122] := by decide +kernel
theorem cl_cm : cl sCm = [97, 98, 99, 100, 101, 102, 103, 104, 105, 106, 107, 108, 109, 48, 49, 50, 51, 52, 53, 54, 55, 56, 57] := by decide +kernel
def spc (c : Nat) : Bool := decide (111 ≤ c ∧ c ≤ 122 ∧ c ≠ 116)
def com (c : Nat) : Bool := decide (97 ≤ c ∧ c ≤ 109) || isDig c
def mkT (l : List Nat) : Str := ⟨l.toArray⟩
theorem cl_mk (l : List Nat) : cl (mkT l) = l := rfl
theorem mk_app (l m : List Nat) : mkT l ++ mkT m = mkT (l ++ m) := cl_inj (by rw [cl_app]; rfl)
theorem mk_len (l : List Nat) : (mkT l).length = l.length := by rw [len_cl, cl_mk]
theorem add_mk (l m : List Nat) (h : l.length + m.length ≤ 100000) : addD (.str (mkT l)) (.str (mkT m)) = some (.str (mkT (l ++ m))) := by
  show (if (mkT l).length + (mkT m).length ≤ 100000 then some (D.str (mkT l ++ mkT m)) else none) = _
  rw [mk_len, mk_len, if_pos h, mk_app]
theorem pick_sp {r : Int} (h : 0 ≤ r ∧ r < 11) : ∃ c, ixD (.str sSp) (.int r) = some (.str (mkT [c])) ∧ (cl sSp)[r.toNat]? = some c ∧ spc c = true ∧ com c = false ∧ isLet c = true := by
  obtain ⟨n, rfl⟩ : ∃ n : Nat, r = n := ⟨r.toNat, by omega⟩
  have hn : n < 11 := by omega
  have hl : (cl sSp).length = 11 := by rw [cl_sp]; rfl
  have h0 : (cl sSp)[n]? = some ((cl sSp)[n]'(by omega)) := List.getElem?_eq_getElem _
  refine ⟨(cl sSp)[n]'(by omega), ixT (by decide +kernel) h0, h0, ?_⟩
  have : ∀ c ∈ cl sSp, spc c = true ∧ com c = false ∧ isLet c = true := by rw [cl_sp]; decide
  exact this _ (List.getElem_mem _)
theorem pick_cm {r : Int} (h : 0 ≤ r ∧ r < 23) : ∃ c, ixD (.str sCm) (.int r) = some (.str (mkT [c])) ∧ spc c = false ∧ com c = true ∧ (r < 13 → isLet c = true) := by
  obtain ⟨n, rfl⟩ : ∃ n : Nat, r = n := ⟨r.toNat, by omega⟩
  have hl : (cl sCm).length = 23 := by rw [cl_cm]; rfl
  have h0 : (cl sCm)[n]? = some ((cl sCm)[n]'(by omega)) := List.getElem?_eq_getElem _
  refine ⟨(cl sCm)[n]'(by omega), ixT (by decide +kernel) h0, ?_⟩
  have : ∀ c ∈ cl sCm, spc c = false ∧ com c = true := by rw [cl_cm]; decide
  refine ⟨(this _ (List.getElem_mem _)).1, (this _ (List.getElem_mem _)).2, fun hr => ?_⟩
  have t : ∀ c ∈ (cl sCm).take 13, isLet c = true := by rw [cl_cm]; decide
  refine t _ ?_
  rw [List.mem_take_iff_getElem]
  exact ⟨n, by omega, rfl⟩
/-- a name in the making: its first j signs, the special one at spot -/
structure Mk' (l : List Nat) (j spot s : Nat) : Prop where
  len : l.length = j
  one : l.filter spc = if spot < j then [s] else []
  abc : ∀ c ∈ l, (spc c || com c) = true
  hd : ∀ c, l.head? = some c → isLet c = true
theorem Mk'.sp {l : List Nat} {j s : Nat} (h : Mk' l j j s) (h1 : spc s = true) (h2 : isLet s = true) : Mk' (l ++ [s]) (j + 1) j s := by
  refine ⟨by rw [List.length_append, h.len]; rfl, ?_, fun c hc => ?_, fun c hc => ?_⟩
  · rw [List.filter_append, h.one, if_neg (by omega), if_pos (by omega)]
    simp [h1]
  · rcases List.mem_append.mp hc with z | z
    · exact h.abc c z
    · rw [List.mem_singleton.mp z, h1]
      rfl
  · cases l with
    | nil => simp at hc; rw [← hc]; exact h2
    | cons d l => exact h.hd c (by simpa using hc)
theorem Mk'.cm {l : List Nat} {j spot s c : Nat} (h : Mk' l j spot s) (hj : j ≠ spot) (h1 : spc c = false) (h2 : com c = true) (h3 : j = 0 → isLet c = true) : Mk' (l ++ [c]) (j + 1) spot s := by
  refine ⟨by rw [List.length_append, h.len]; rfl, ?_, fun d hd => ?_, fun d hd => ?_⟩
  · rw [List.filter_append, h.one]
    simp [h1]
    by_cases q : spot < j
    · rw [if_pos q, if_pos (by omega)]
    · rw [if_neg q, if_neg (by omega)]
  · rcases List.mem_append.mp hd with z | z
    · exact h.abc d z
    · rw [List.mem_singleton.mp z, h2]
      simp
  · cases l with
    | nil =>
      simp at hd
      rw [← hd]
      exact h3 h.len.symm
    | cons e l => exact h.hd d (by simpa using hd)
/-- such a name, done -/
structure Gn (z : Str) (s : Nat) : Prop where
  len : 1 ≤ (cl z).length ∧ (cl z).length ≤ 12
  one : (cl z).filter spc = [s]
  abc : ∀ c ∈ cl z, (spc c || com c) = true
  hd : ∀ c, (cl z).head? = some c → isLet c = true
theorem an_of {c : Nat} (h : (spc c || com c) = true) : isAn c = true := by
  unfold spc com isAn isLet isDig at *
  simp at h ⊢
  omega
theorem Gn.name {z : Str} {s : Nat} (h : Gn z s) : isName z = true := by
  unfold isName
  rw [decide_eq_true h.len, Bool.true_and]
  have ha : (cl z).all isAn = true := List.all_eq_true.mpr fun c hc => an_of (h.abc c hc)
  have hr : resv.contains z = false := by
    rw [contains_dec, decide_eq_false_iff_not]
    intro hm
    have : ∀ w ∈ resv, ¬ ((cl w).all (fun c => spc c || com c) = true ∧ ((cl w).filter spc).length = 1) := by decide +kernel
    exact this z hm ⟨List.all_eq_true.mpr h.abc, by rw [h.one]; rfl⟩
  rw [ha, hr]
  cases hz : cl z with
  | nil => have := h.len.1; rw [hz] at this; simp at this
  | cons c cs =>
    have := h.hd c (by rw [hz]; rfl)
    simp [this]
theorem sp_inj {step shift i j : Int} (h : 1 ≤ step ∧ step ≤ 10) (hi : 0 ≤ i ∧ i < 11) (hj : 0 ≤ j ∧ j < 11) (e : (i * step + shift) % 11 = (j * step + shift) % 11) : i = j := by
  obtain ⟨h1, h2⟩ := h
  have : step = 1 ∨ step = 2 ∨ step = 3 ∨ step = 4 ∨ step = 5 ∨ step = 6 ∨ step = 7 ∨ step = 8 ∨ step = 9 ∨ step = 10 := by omega
  rcases this with rfl | rfl | rfl | rfl | rfl | rfl | rfl | rfl | rfl | rfl <;> omega
end Sx

set_option Elab.async false
set_option linter.all false
set_option maxRecDepth 100000
set_option maxHeartbeats 4000000
namespace Sx
open PySem L2
def eN (ns : List Int) (at_ count sh st : Int) (al : Bool) (zs : List Str) (s9 s10 s11 s12 s13 s14 : Sl) : En := [.fz (.scr ns), .fz (.int at_), .fz (.int count), .fz (.str sSp), .fz (.str sCm), .fz (.int sh), .fz (.int st), .fz (.bl al), .ow (zs.map .str), s9, s10, s11, s12, s13, s14]
def inB : En → Option Out := (mIfS (fun E => ((mBin eqD (mVarT 14) (mVarT 12)) E).bind blOf) (mSet 13 (mBin addD (mVarT 13) (mBin ixD (mVarT 3) (mBin (intOpC (fun _ j => decide (0 < j)) fun i j => .int (i % j)) (mUn intD (mBin addD (mBin (intOpC mulOk fun i j => .int (i * j)) (mVarT 9) (mVarT 6)) (mVarT 5))) (mC (.int 11)))))) (mIfS (fun E => ((mBin eqD (mVarT 14) (mC (.int 0))) E).bind blOf) (mSet 13 (mBin addD (mVarT 13) (mBin ixD (mVarT 4) (mCall 4 m__law_draw (mCons (mVar 0) (mCons (mVar 1) (mCons (mBin addD (mVarT 10) (mC (.int 2))) (mCons (mC (.int 13)) mNil)))))))) (mSet 13 (mBin addD (mVarT 13) (mBin ixD (mVarT 4) (mCall 4 m__law_draw (mCons (mVar 0) (mCons (mVar 1) (mCons (mBin addD (mBin addD (mVarT 10) (mC (.int 2))) (mVarT 14)) (mCons (mC (.int 23)) mNil))))))))))
theorem addI (a b : Int) : addD (.int a) (.int b) = some (.int (a + b)) := rfl
theorem emp_mk : ("" : Str) = mkT [] := by decide +kernel
theorem in_ok {ns : List Int} {at_ count sh st : Int} {al : Bool} {zs : List Str} {k key width : Int} {spot : Nat} {s : Nat} {s14 : Sl} (h : 0 ≤ at_) (hk : 0 ≤ k ∧ k ≤ 100) (hst : 1 ≤ st ∧ st ≤ 10) (hsh : 0 ≤ sh ∧ sh < 11) (hkey : 0 ≤ key ∧ key ≤ 10000) (hw : 1 ≤ width ∧ width ≤ 12)
    (hs : (cl sSp)[((k * st + sh) % 11).toNat]? = some s) : ∃ l s14', runFor (gM 14) inB (rangeD 0 width.toNat) (eN ns at_ count sh st al zs (.fz (.int k)) (.fz (.int key)) (.fz (.int width)) (.fz (.int spot)) (.fz (.str (mkT []))) s14) = some (.nx (eN ns at_ count sh st al zs (.fz (.int k)) (.fz (.int key)) (.fz (.int width)) (.fz (.int spot)) (.fz (.str (mkT l))) s14')) ∧ Mk' l width.toNat spot s := by
  have hr : 0 ≤ (k * st + sh) % 11 ∧ (k * st + sh) % 11 < 11 := by omega
  obtain ⟨s', p1, p2, p3, p4, p5⟩ := pick_sp hr
  have : s' = s := by rw [p2] at hs; cases hs; rfl
  subst this
  obtain ⟨E', f1, l, s14', rfl, hm⟩ := runFor_inv (mg := gM 14) (mb := inB) (fun j E => ∃ l s14, E = eN ns at_ count sh st al zs (.fz (.int k)) (.fz (.int key)) (.fz (.int width)) (.fz (.int spot)) (.fz (.str (mkT l))) s14 ∧ Mk' l j spot s') (rangeD 0 width.toNat) 0 _ ⟨[], s14, rfl, rfl, by simp, by simp, by simp⟩ fun j d E hd hI => by
    simp only [Nat.zero_add] at hI ⊢
    obtain ⟨l, s14, rfl, hm⟩ := hI
    obtain ⟨rfl, hj⟩ := range_at hd
    rw [Int.zero_add]
    have hll := hm.len
    have ad : ∀ c, addD (.str (mkT l)) (.str (mkT [c])) = some (.str (mkT (l ++ [c]))) := fun c => add_mk l [c] (by simp; omega)
    by_cases q : j = spot
    · refine ⟨eN ns at_ count sh st al zs (.fz (.int k)) (.fz (.int key)) (.fz (.int width)) (.fz (.int spot)) (.fz (.str (mkT l))) (.fz (.int j)), eN ns at_ count sh st al zs (.fz (.int k)) (.fz (.int key)) (.fz (.int width)) (.fz (.int spot)) (.fz (.str (mkT (l ++ [s'])))) (.fz (.int j)), rfl, .inl ?_, l ++ [s'], .fz (.int j), rfl, by subst q; exact hm.sp p3 p5⟩
      have e1 : (j : Int) = (spot : Int) := by omega
      have mk := mulOk_l (i := k) (j := st) (by omega)
      unfold inB eN
      simp [-ixD, -addD, addI, e1, mk, p1, ad]
    · have e1 : ¬ (j : Int) = (spot : Int) := by omega
      by_cases q0 : j = 0
      · obtain ⟨r, d1, d2, d3⟩ := draw_ok ns (at_ := at_) (k := key + 2) (size := 13) h (by omega) (by omega)
        obtain ⟨c, c1, c2, c3, c4⟩ := pick_cm (r := r) (by omega)
        refine ⟨eN ns at_ count sh st al zs (.fz (.int k)) (.fz (.int key)) (.fz (.int width)) (.fz (.int spot)) (.fz (.str (mkT l))) (.fz (.int j)), eN ns at_ count sh st al zs (.fz (.int k)) (.fz (.int key)) (.fz (.int width)) (.fz (.int spot)) (.fz (.str (mkT (l ++ [c])))) (.fz (.int j)), rfl, .inl ?_, l ++ [c], .fz (.int j), rfl, hm.cm q c2 c3 fun _ => c4 (by omega)⟩
        subst q0
        have e2 : ¬ (0 : Int) = (spot : Int) := by simpa using e1
        unfold inB eN
        simp [-ixD, -addD, addI, e2, d1, c1, ad]
      · obtain ⟨r, d1, d2, d3⟩ := draw_ok ns (at_ := at_) (k := key + 2 + j) (size := 23) h (by omega) (by omega)
        obtain ⟨c, c1, c2, c3, c4⟩ := pick_cm (r := r) (by omega)
        refine ⟨eN ns at_ count sh st al zs (.fz (.int k)) (.fz (.int key)) (.fz (.int width)) (.fz (.int spot)) (.fz (.str (mkT l))) (.fz (.int j)), eN ns at_ count sh st al zs (.fz (.int k)) (.fz (.int key)) (.fz (.int width)) (.fz (.int spot)) (.fz (.str (mkT (l ++ [c])))) (.fz (.int j)), rfl, .inl ?_, l ++ [c], .fz (.int j), rfl, hm.cm q c2 c3 fun z => absurd z q0⟩
        unfold inB eN
        simp [-ixD, -addD, addI, e1, q0, d1, c1, ad]
  refine ⟨l, s14', f1, ?_⟩
  rw [rangeD_len, Nat.zero_add] at hm
  exact hm

def outB : En → Option Out := (mSeq (mSet 10 (mC (.int 3)))
      (mSeq (mIfS (mNot (fun E => ((mVarT 7) E).bind truD)) (mSet 10 (mBin addD (mC (.int 3)) (mBin (intOpC mulOk fun i j => .int (i * j)) (mC (.int 16)) (mBin addD (mVarT 9) (mC (.int 1)))))) mNext)
      (mSeq (mSet 11 (mBin addD (mC (.int 1)) (mCall 4 m__law_draw (mCons (mVar 0) (mCons (mVar 1) (mCons (mVar 10) (mCons (mC (.int 12)) mNil)))))))
      (mSeq (mSet 12 (mCall 4 m__law_draw (mCons (mVar 0) (mCons (mVar 1) (mCons (mBin addD (mVarT 10) (mC (.int 1))) (mCons (mVar 11) mNil))))))
      (mSeq (mSet 13 (mC (.str "")))
      (mSeq (mFor (fun E => ((mVarT 11) E).bind rg1) (gM 14) inB)
      (mApp 8 (mVar 13))))))))
theorem out_ok {ns : List Int} {at_ count sh st : Int} {al : Bool} {zs : List Str} {k : Nat} {s : Nat} {s10 s11 s12 s13 s14 : Sl} (h : 0 ≤ at_) (hk : k < 11) (hst : 1 ≤ st ∧ st ≤ 10) (hsh : 0 ≤ sh ∧ sh < 11) (hz : zs.length ≤ 1000)
    (hs : (cl sSp)[(((k : Int) * st + sh) % 11).toNat]? = some s) : ∃ z t10 t11 t12 t13 t14, outB (eN ns at_ count sh st al zs (.fz (.int k)) s10 s11 s12 s13 s14) = some (.nx (eN ns at_ count sh st al (zs ++ [z]) (.fz (.int k)) t10 t11 t12 t13 t14)) ∧ Gn z s := by
  obtain ⟨key, hk1, hk2⟩ : ∃ key : Int, (0 ≤ key ∧ key ≤ 10000) ∧ (mIfS (mNot (fun E => ((mVarT 7) E).bind truD)) (mSet 10 (mBin addD (mC (.int 3)) (mBin (intOpC mulOk fun i j => .int (i * j)) (mC (.int 16)) (mBin addD (mVarT 9) (mC (.int 1)))))) mNext) (eN ns at_ count sh st al zs (.fz (.int k)) (.fz (.int 3)) s11 s12 s13 s14) = some (.nx (eN ns at_ count sh st al zs (.fz (.int k)) (.fz (.int key)) s11 s12 s13 s14)) := by
    cases al with
    | true => exact ⟨3, by omega, rfl⟩
    | false =>
      refine ⟨3 + 16 * ((k : Int) + 1), by omega, ?_⟩
      have m := mulOk_l (i := 16) (j := (k : Int) + 1) (by omega)
      unfold eN
      simp [-addD, addI, m]
  obtain ⟨w, d1, d2⟩ := draw_ok ns (at_ := at_) (k := key) (size := 12) h (by omega) (by omega)
  obtain ⟨spot, e1, e2, e3⟩ := draw_ok ns (at_ := at_) (k := key + 1) (size := 1 + w) h (by omega) (by omega)
  obtain ⟨sp, rfl⟩ : ∃ n : Nat, spot = n := ⟨spot.toNat, by omega⟩
  obtain ⟨l, s14', f1, hm⟩ := in_ok (ns := ns) (at_ := at_) (count := count) (sh := sh) (st := st) (al := al) (zs := zs) (k := (k : Int)) (key := key) (width := 1 + w) (spot := sp) (s := s) (s14 := s14) h (by omega) hst hsh hk1 (by omega) hs
  refine ⟨mkT l, .fz (.int key), .fz (.int (1 + w)), .fz (.int sp), .fz (.str (mkT l)), s14', ?_, ?_⟩
  · unfold outB
    rw [seq_nx (eN ns at_ count sh st al zs (.fz (.int k)) (.fz (.int 3)) s11 s12 s13 s14) rfl]
    rw [seq_nx _ hk2]
    rw [seq_nx (eN ns at_ count sh st al zs (.fz (.int k)) (.fz (.int key)) (.fz (.int (1 + w))) s12 s13 s14) (by unfold eN; simp [-addD, addI, d1])]
    rw [seq_nx (eN ns at_ count sh st al zs (.fz (.int k)) (.fz (.int key)) (.fz (.int (1 + w))) (.fz (.int sp)) s13 s14) (by unfold eN; simp [-addD, addI, e1])]
    rw [seq_nx (eN ns at_ count sh st al zs (.fz (.int k)) (.fz (.int key)) (.fz (.int (1 + w))) (.fz (.int sp)) (.fz (.str (mkT []))) s14) (by rw [← emp_mk]; rfl)]
    rw [seq_nx (eN ns at_ count sh st al zs (.fz (.int k)) (.fz (.int key)) (.fz (.int (1 + w))) (.fz (.int sp)) (.fz (.str (mkT l))) s14') (by
      have : ((mVarT 11) (eN ns at_ count sh st al zs (.fz (.int k)) (.fz (.int key)) (.fz (.int (1 + w))) (.fz (.int sp)) (.fz (.str (mkT []))) s14)).bind rg1 = some (rangeD 0 (1 + w).toNat) := by
        unfold eN
        simp
        omega
      show (((mVarT 11) _).bind rg1).bind _ = _
      rw [this]
      exact f1)]
    have : zs.length < 100000 := by omega
    unfold eN
    simp [this]
  · refine ⟨by rw [cl_mk, hm.len]; omega, ?_, hm.abc, hm.hd⟩
    have := hm.one
    rw [if_pos (by omega)] at this
    exact this
def runF (o : Option Out) : Option (List D) := match o with
  | some (.rf ds) => some ds
  | _ => none
theorem fat_nx {a b : En → Option Out} {E : En} {d : List D} (E1 : En) (h : a E = some (.nx E1)) (k : runF (b E1) = some d) : runF (mSeq a b E) = some d := by
  rw [seq_nx E1 h]
  exact k
theorem fat_for {mi : En → Option (List D)} {mg : En → D → Option En} {mb r : En → Option Out} {E : En} {d : List D} (ds : List D) (E1 : En) (h : mi E = some ds) (h1 : runFor mg mb ds E = some (.nx E1)) (g : runF (r E1) = some d) : runF (mSeq (mFor mi mg mb) r E) = some d := by
  refine fat_nx E1 ?_ g
  show (mi E).bind _ = _
  rw [h]
  exact h1
theorem law_names_ok (ns : List Int) {at_ count : Int} (h : 0 ≤ at_) (hc : 0 ≤ count ∧ count ≤ 11) : ∃ (zs : List Str) (st sh : Int), (1 ≤ st ∧ st ≤ 10) ∧ (0 ≤ sh ∧ sh < 11) ∧ mF__law_names [.scr ns, .int at_, .int count] = some (zs.map .str) ∧ zs.length = count.toNat ∧ ∀ (i : Nat) z, zs[i]? = some z → ∃ s, (cl sSp)[(((i : Int) * st + sh) % 11).toNat]? = some s ∧ Gn z s := by
  obtain ⟨sh, d1, d2⟩ := draw_ok ns (at_ := at_) (k := 0) (size := 11) h (by omega) (by omega)
  obtain ⟨r, e1, e2⟩ := draw_ok ns (at_ := at_) (k := 1) (size := 10) h (by omega) (by omega)
  obtain ⟨q, f1, f2⟩ := draw_ok ns (at_ := at_) (k := 2) (size := 2) h (by omega) (by omega)
  have hl : (cl sSp).length = 11 := by rw [cl_sp]; rfl
  obtain ⟨E', g1, zs, s9, s10, s11, s12, s13, s14, rfl, hz1, hz2⟩ := runFor_inv (mg := gM 9) (mb := outB) (fun j E => ∃ zs s9 s10 s11 s12 s13 s14, E = eN ns at_ count sh (1 + r) (decide (q = 0)) zs s9 s10 s11 s12 s13 s14 ∧ zs.length = j ∧ ∀ (i : Nat) z, zs[i]? = some z → ∃ s, (cl sSp)[(((i : Int) * (1 + r) + sh) % 11).toNat]? = some s ∧ Gn z s) (rangeD 0 count.toNat) 0 (eN ns at_ count sh (1 + r) (decide (q = 0)) [] .un .un .un .un .un .un) ⟨[], _, _, _, _, _, _, rfl, rfl, by simp⟩ fun j d E hd hI => by
    simp only [Nat.zero_add] at hI ⊢
    obtain ⟨zs, s9, s10, s11, s12, s13, s14, rfl, hz1, hz2⟩ := hI
    obtain ⟨rfl, hj⟩ := range_at hd
    rw [Int.zero_add]
    have hsx := List.getElem?_eq_getElem (l := cl sSp) (i := (((j : Int) * (1 + r) + sh) % 11).toNat) (by omega)
    obtain ⟨z, t10, t11, t12, t13, t14, o1, o2⟩ := out_ok (ns := ns) (count := count) (al := decide (q = 0)) (zs := zs) (s10 := s10) (s11 := s11) (s12 := s12) (s13 := s13) (s14 := s14) h (show j < 11 by omega) (show 1 ≤ 1 + r ∧ 1 + r ≤ 10 by omega) d2 (by omega) hsx
    refine ⟨eN ns at_ count sh (1 + r) (decide (q = 0)) zs (.fz (.int j)) s10 s11 s12 s13 s14, _, rfl, .inl o1, _, _, _, _, _, _, _, rfl, by rw [List.length_append, hz1]; rfl, fun i y hy => ?_⟩
    rcases Nat.lt_or_ge i zs.length with hi | hi
    · rw [List.getElem?_append_left hi] at hy
      exact hz2 i y hy
    · have : i = zs.length := by
        have := (List.getElem?_eq_some_iff.mp hy).1
        simp at this
        omega
      subst this
      simp at hy
      subst hy
      rw [hz1]
      exact ⟨_, hsx, o2⟩
  refine ⟨zs, 1 + r, sh, by omega, d2, ?_, by rw [rangeD_len] at hz1; omega, hz2⟩
  unfold mF__law_names callF b__law_names
  show runF (mSeq _ _ [.fz (.scr ns), .fz (.int at_), .fz (.int count), .un, .un, .un, .un, .un, .un, .un, .un, .un, .un, .un, .un]) = _
  refine fat_nx [.fz (.scr ns), .fz (.int at_), .fz (.int count), .fz (.str sSp), .un, .un, .un, .un, .un, .un, .un, .un, .un, .un, .un] rfl ?_
  refine fat_nx [.fz (.scr ns), .fz (.int at_), .fz (.int count), .fz (.str sSp), .fz (.str sCm), .un, .un, .un, .un, .un, .un, .un, .un, .un, .un] rfl ?_
  refine fat_nx [.fz (.scr ns), .fz (.int at_), .fz (.int count), .fz (.str sSp), .fz (.str sCm), .fz (.int sh), .un, .un, .un, .un, .un, .un, .un, .un, .un] (by simp [d1]) ?_
  refine fat_nx [.fz (.scr ns), .fz (.int at_), .fz (.int count), .fz (.str sSp), .fz (.str sCm), .fz (.int sh), .fz (.int (1 + r)), .un, .un, .un, .un, .un, .un, .un, .un] (by simp [-addD, addI, e1]) ?_
  refine fat_nx [.fz (.scr ns), .fz (.int at_), .fz (.int count), .fz (.str sSp), .fz (.str sCm), .fz (.int sh), .fz (.int (1 + r)), .fz (.bl (decide (q = 0))), .un, .un, .un, .un, .un, .un, .un] (by simp [f1]) ?_
  refine fat_nx (eN ns at_ count sh (1 + r) (decide (q = 0)) [] .un .un .un .un .un .un) rfl ?_
  refine fat_for (rangeD 0 count.toNat) _ ?_ g1 rfl
  unfold eN
  simp
  omega
end Sx

set_option Elab.async false
set_option linter.all false
set_option maxRecDepth 100000
set_option maxHeartbeats 4000000
namespace Sx
open PySem L2
theorem sl_mk (l : List Nat) (k : Nat) (h : k ≤ l.length) : Txt.slice (mkT l) (some (k : Int)) none = mkT (l.drop k) := by
  have hl := mk_len l
  have := PyProof.Rows.slice_closes_fromL (x := mkT l) (i := (k : Int)) (b := ((mkT l).length : Int)) (by omega) (by omega) rfl
  rw [eq_of_beq this]
  show mkT (List.take _ (List.drop _ l)) = _
  rw [List.take_of_length_le (by rw [List.length_drop]; omega)]
  rfl
/-- a name made of another one -/
structure Dn (z : Str) (s : Nat) : Prop where
  len : 1 ≤ (cl z).length ∧ (cl z).length ≤ 12
  one : (cl z).filter spc = [s]
  abc : ∀ c ∈ cl z, (spc c || (com c || c == 116)) = true
  tt : 116 ∈ cl z
  fin : (cl z).getLast? = some 116 ∨ (cl z).length = 12
  hd : ∀ c, (cl z).head? = some c → isLet c = true
theorem an_of' {c : Nat} (h : (spc c || (com c || c == 116)) = true) : isAn c = true := by
  unfold spc com isAn isLet isDig at *
  simp at h ⊢
  omega
theorem Dn.name {z : Str} {s : Nat} (h : Dn z s) : isName z = true := by
  unfold isName
  rw [decide_eq_true h.len, Bool.true_and]
  have ha : (cl z).all isAn = true := List.all_eq_true.mpr fun c hc => an_of' (h.abc c hc)
  have hr : resv.contains z = false := by
    rw [contains_dec, decide_eq_false_iff_not]
    intro hm
    have : ∀ w ∈ resv, ¬ ((cl w).all (fun c => spc c || (com c || c == 116)) = true ∧ ((cl w).filter spc).length = 1 ∧ 116 ∈ cl w ∧ ((cl w).getLast? = some 116 ∨ (cl w).length = 12)) := by decide +kernel
    exact this z hm ⟨List.all_eq_true.mpr h.abc, by rw [h.one]; rfl, h.tt, h.fin⟩
  rw [ha, hr]
  cases hz : cl z with
  | nil => have := h.len.1; rw [hz] at this; simp at this
  | cons c cs =>
    have := h.hd c (by rw [hz]; rfl)
    simp [this]
def dv (l : List Nat) : List Nat := if l.length < 12 then l ++ [116] else if spc (l.headD 0) = true then l.headD 0 :: 116 :: l.drop 2 else 116 :: l.drop 1
theorem sp116 : spc 116 = false := by decide
theorem dv_ok {l : List Nat} {s : Nat} (h : Gn (mkT l) s) : Dn (mkT (dv l)) s := by
  obtain ⟨h1, h2, h3, h4⟩ := h
  rw [cl_mk] at h1 h2 h3 h4
  have h3' : ∀ c ∈ l, (spc c || (com c || c == 116)) = true := fun c hc => by
    have := h3 c hc
    rw [← Bool.or_assoc, this, Bool.true_or]
  have t116 : (spc 116 || (com 116 || (116 : Nat) == 116)) = true := by decide
  unfold dv
  split
  · rename_i hl
    refine ⟨?_, ?_, ?_, ?_, ?_, ?_⟩ <;> rw [cl_mk]
    · rw [List.length_append]; simp; omega
    · rw [List.filter_append, h2]; simp [sp116]
    · intro c hc
      rcases List.mem_append.mp hc with z | z
      · exact h3' c z
      · rw [List.mem_singleton.mp z]; exact t116
    · simp
    · left; simp
    · intro c hc
      cases l with
      | nil => simp at h1
      | cons d l => exact h4 c (by simpa using hc)
  · rename_i hl
    match l, hl, h1, h2, h3, h4, h3' with
    | a :: b :: r, hl, h1, h2, h3, h4, h3' =>
      have hl2 : r.length = 10 := by simp at hl h1; omega
      split
      · rename_i hs
        have hs : spc a = true := hs
        have hb : spc b = false ∧ r.filter spc = [] := by
          rw [List.filter_cons, if_pos hs, List.filter_cons] at h2
          by_cases hb : spc b = true
          · rw [if_pos hb] at h2; simp at h2
          · rw [if_neg hb] at h2
            exact ⟨by simpa using hb, by simpa using (List.cons.inj h2).2⟩
        have ha : a = s := by
          rw [List.filter_cons, if_pos hs] at h2
          exact (List.cons.inj h2).1
        refine ⟨?_, ?_, ?_, ?_, ?_, ?_⟩ <;> rw [cl_mk]
        · simp [hl2]
        · show List.filter spc (a :: 116 :: r) = _
          rw [List.filter_cons, if_pos hs, List.filter_cons, sp116, if_neg Bool.false_ne_true, hb.2, ha]
        · intro c hc
          have hc : c ∈ a :: 116 :: r := hc
          simp only [List.mem_cons] at hc
          rcases hc with rfl | rfl | z
          · exact h3' _ (by simp)
          · exact t116
          · exact h3' c (by simp [z])
        · simp
        · right; simp [hl2]
        · intro c hc
          exact h4 c (by simpa using hc)
      · rename_i hs
        have hs : spc a = false := by simpa using hs
        refine ⟨?_, ?_, ?_, ?_, ?_, ?_⟩ <;> rw [cl_mk]
        · simp [hl2]
        · show List.filter spc (116 :: b :: r) = _
          rw [List.filter_cons, hs, if_neg Bool.false_ne_true] at h2
          rw [List.filter_cons, sp116, if_neg Bool.false_ne_true]
          exact h2
        · intro c hc
          have hc : c ∈ 116 :: b :: r := hc
          simp only [List.mem_cons] at hc
          rcases hc with rfl | rfl | z
          · exact t116
          · exact h3' _ (by simp)
          · exact h3' c (by simp [z])
        · simp
        · right; simp [hl2]
        · intro c hc
          have : (116 : Nat) = c := by simpa using hc
          rw [← this]
          decide
    | [a], hl, h1, _, _, _, _ => simp at hl
    | [], hl, h1, _, _, _, _ => simp at hl
def moB : En → Option Out := (mSeq (mSet 5 (mBin ixD (mVarT 3) (mVarT 4)))
      (mIfS (fun E => ((mBin (intOp fun i j => .bl (decide (i < j))) (mUn lenD (mVarT 5)) (mC (.int 12))) E).bind blOf) (mApp 3 (mBin addD (mVarT 5) (mC (.str "t")))) (mIfS (fun E => ((mBin inDA (mBin ixD (mVarT 5) (mC (.int 0))) (mC (.str "opqrsuvwxyz"))) E).bind blOf) (mApp 3 (mBin addD (mBin addD (mBin ixD (mVarT 5) (mC (.int 0))) (mC (.str "t"))) (fun E => ((mVarT 5) E).bind fun x => ((fun E => ((mC (.int 2)) E).bind inOf) E).bind fun l => ((fun _ => some none) E).bind fun h => slS l h x))) (mApp 3 (mBin addD (mC (.str "t")) (fun E => ((mVarT 5) E).bind fun x => ((fun E => ((mC (.int 1)) E).bind inOf) E).bind fun l => ((fun _ => some none) E).bind fun h => slS l h x))))))
def eM (ns : List Int) (at_ count : Int) (zs : List Str) (s4 s5 : Sl) : En := [.fz (.scr ns), .fz (.int at_), .fz (.int count), .ow (zs.map .str), s4, s5]
theorem t_mk : Str.ofString "t" = mkT [116] := by decide +kernel
theorem mem_sp (c : Nat) : decide (c ∈ cl sSp) = spc c := by
  rw [cl_sp]
  unfold spc
  rw [Bool.eq_iff_iff]
  simp
  omega
theorem mo_ok {ns : List Int} {at_ count : Int} {zs : List Str} {l : List Nat} {k : Nat} {s : Nat} {s5 : Sl} (hz : zs[k]? = some (mkT l)) (hg : Gn (mkT l) s) (hl : zs.length ≤ 1000) :
    moB (eM ns at_ count zs (.fz (.int k)) s5) = some (.nx (eM ns at_ count (zs ++ [mkT (dv l)]) (.fz (.int k)) (.fz (.str (mkT l))))) := by
  have hlen := hg.len
  rw [cl_mk] at hlen
  have hx := ix_map (f := D.str) hz
  have hL := lenD_s (z := mkT l) (by rw [mk_len]; omega)
  rw [mk_len] at hL
  have zl : zs.length < 100000 := by omega
  unfold moB dv
  rw [seq_nx (eM ns at_ count zs (.fz (.int k)) (.fz (.str (mkT l)))) (by unfold eM; simp [-ixD, hx])]
  by_cases q : l.length < 12
  · have q' : (l.length : Int) < 12 := by omega
    have a1 := add_mk l [116] (by simp; omega)
    rw [if_pos q]
    unfold eM
    simp [-ixD, -lenD, -addD, hL, q', t_mk, a1, zl]
  · have q' : ¬ (l.length : Int) < 12 := by omega
    rw [if_neg q]
    match l, q, hlen, hL, hg with
    | a :: b :: r, q, hlen, hL, hg =>
      have i0 : ixD (.str (mkT (a :: b :: r))) (.int 0) = some (.str (mkT [a])) := ixT (i := 0) (by rw [mk_len]; omega) rfl
      have e3 : inDA (.str (mkT [a])) (.str sSp) = some (.bl (spc a)) := by
        show inSD (.str ⟨#[a]⟩) (.str sSp) = _
        rw [inS_one, mem_sp]
      have hll : (mkT (a :: b :: r)).length ≤ 100000 := by rw [mk_len]; omega
      have s2 : slS (some 2) none (.str (mkT (a :: b :: r))) = some (.str (mkT r)) := by
        show (if (mkT (a :: b :: r)).length ≤ 100000 then some (D.str (Txt.slice (mkT (a :: b :: r)) (some ((2 : Nat) : Int)) none)) else none) = _
        rw [if_pos hll, sl_mk _ 2 (by simp)]
        rfl
      have s1 : slS (some 1) none (.str (mkT (a :: b :: r))) = some (.str (mkT (b :: r))) := by
        show (if (mkT (a :: b :: r)).length ≤ 100000 then some (D.str (Txt.slice (mkT (a :: b :: r)) (some ((1 : Nat) : Int)) none)) else none) = _
        rw [if_pos hll, sl_mk _ 1 (by simp)]
        rfl
      have hr : r.length ≤ 10 := by simp at hlen; omega
      have a2 := add_mk [a] [116] (by simp)
      have a3 := add_mk [a, 116] r (by simp; omega)
      have a4 := add_mk [116] (b :: r) (by simp; omega)
      have a2' : addD (.str (mkT [a])) (.str (mkT [116])) = some (.str (mkT [a, 116])) := a2
      have a3' : addD (.str (mkT [a, 116])) (.str (mkT r)) = some (.str (mkT (a :: 116 :: r))) := a3
      have a4' : addD (.str (mkT [116])) (.str (mkT (b :: r))) = some (.str (mkT (116 :: b :: r))) := a4
      cases hs : spc a with
      | true =>
        rw [hs] at e3
        have : ((a :: b :: r).headD 0) = a := rfl
        rw [this, if_pos hs]
        show _ = some (Out.nx (eM ns at_ count (zs ++ [mkT (a :: 116 :: r)]) _ _))
        generalize (mkT (a :: b :: r)) = nm at *
        unfold eM
        simp [-ixD, -lenD, -addD, -inDA, -slS, hL, q', t_mk, i0, e3, s2, a2', a3', zl]
        intro hh
        simp at q
        omega
      | false =>
        rw [hs] at e3
        have : ((a :: b :: r).headD 0) = a := rfl
        rw [this, hs, if_neg Bool.false_ne_true]
        show _ = some (Out.nx (eM ns at_ count (zs ++ [mkT (116 :: b :: r)]) _ _))
        generalize (mkT (a :: b :: r)) = nm at *
        unfold eM
        simp [-ixD, -lenD, -addD, -inDA, -slS, hL, q', t_mk, i0, e3, s1, a4', zl]
        intro hh
        simp at q
        omega
    | [a], q, hlen, _, _ => simp at q
    | [], q, hlen, _, _ => simp at q

def ixS (st sh : Int) (i : Nat) : Nat := (((i : Int) * st + sh) % 11).toNat
theorem sS_inj {st sh : Int} (hst : 1 ≤ st ∧ st ≤ 10) {i j s : Nat} (hi : i < 11) (hj : j < 11) (a : (cl sSp)[ixS st sh i]? = some s) (b : (cl sSp)[ixS st sh j]? = some s) : i = j := by
  have nd : (cl sSp).Nodup := by rw [cl_sp]; decide
  have := (List.getElem?_inj (List.getElem?_eq_some_iff.mp a).1 nd).mp (a.trans b.symm)
  unfold ixS at this
  have := sp_inj (step := st) (shift := sh) (i := i) (j := j) hst (by omega) (by omega) (by omega)
  omega
theorem more_nodup {st sh : Int} (hst : 1 ≤ st ∧ st ≤ 10) {n : Nat} (hn : n ≤ 11) {zs : List Str} (h : ∀ (i : Nat) z, zs[i]? = some z → (i < n ∧ ∃ s, (cl sSp)[ixS st sh i]? = some s ∧ Gn z s) ∨ (n ≤ i ∧ i - n < 11 ∧ ∃ s, (cl sSp)[ixS st sh (i - n)]? = some s ∧ Dn z s)) : zs.Nodup := by
  rw [List.nodup_iff_pairwise_ne, List.pairwise_iff_getElem]
  intro i j hi hj hij e
  have a := h i _ (List.getElem?_eq_getElem hi)
  have b := h j _ (List.getElem?_eq_getElem hj)
  rw [e] at a
  rcases a with ⟨a1, s, a2, a3⟩ | ⟨a1, a4, s, a2, a3⟩ <;> rcases b with ⟨b1, t, b2, b3⟩ | ⟨b1, b4, t, b2, b3⟩
  · have := a3.one.symm.trans b3.one
    simp at this
    subst this
    have := sS_inj hst (by omega) (by omega) a2 b2
    omega
  · have := a3.abc 116 b3.tt
    revert this
    decide
  · have := b3.abc 116 a3.tt
    revert this
    decide
  · have := a3.one.symm.trans b3.one
    simp at this
    subst this
    have := sS_inj hst a4 b4 a2 b2
    omega
theorem law_more_ok (ns : List Int) {at_ count : Int} (h : 0 ≤ at_) (hc : 0 ≤ count ∧ count ≤ 20) : ∃ zs : List Str, m__law_more_names [.scr ns, .int at_, .int count] = some (.lst (zs.map .str)) ∧ zs.length = count.toNat ∧ zs.Nodup ∧ ∀ z ∈ zs, isName z = true := by
  obtain ⟨n, hn⟩ : ∃ n : Nat, (n : Int) = (if 11 < count then 11 else count) := ⟨(if 11 < count then 11 else count).toNat, by split <;> omega⟩
  have hn11 : n ≤ 11 := by split at hn <;> omega
  obtain ⟨z0, st, sh, hst, hsh, f0, l0, p0⟩ := law_names_ok ns (at_ := at_) (count := (n : Int)) h (by omega)
  have l0' : z0.length = n := by omega
  have hl : (cl sSp).length = 11 := by rw [cl_sp]; rfl
  obtain ⟨E', g1, zs, s4, s5, rfl, hz1, hz2⟩ := runFor_inv (mg := gM 4) (mb := moB) (fun j E => ∃ zs s4 s5, E = eM ns at_ count zs s4 s5 ∧ zs.length = n + j ∧ ∀ (i : Nat) z, zs[i]? = some z → (i < n ∧ ∃ s, (cl sSp)[ixS st sh i]? = some s ∧ Gn z s) ∨ (n ≤ i ∧ i - n < 11 ∧ ∃ s, (cl sSp)[ixS st sh (i - n)]? = some s ∧ Dn z s)) (rangeD 0 (count - (n : Int)).toNat) 0 (eM ns at_ count z0 .un .un) ⟨z0, _, _, rfl, l0', fun i z hz => .inl ⟨by have := (List.getElem?_eq_some_iff.mp hz).1; omega, p0 i z hz⟩⟩ fun j d E hd hI => by
    simp only [Nat.zero_add] at hI ⊢
    obtain ⟨zs, s4, s5, rfl, hz1, hz2⟩ := hI
    obtain ⟨rfl, hj⟩ := range_at hd
    rw [Int.zero_add]
    have hjn : j < n := by split at hn <;> omega
    have gz := List.getElem?_eq_getElem (l := zs) (i := j) (by omega)
    rcases hz2 j _ gz with ⟨_, s, c1, c2⟩ | ⟨q, _⟩
    · have c2' : Gn (mkT (cl zs[j])) s := c2
      have := mo_ok (ns := ns) (at_ := at_) (count := count) (s5 := s5) (l := cl zs[j]) gz c2' (by omega)
      refine ⟨eM ns at_ count zs (.fz (.int j)) s5, _, rfl, .inl this, _, _, _, rfl, by rw [List.length_append, List.length_singleton]; omega, fun i y hy => ?_⟩
      rcases Nat.lt_or_ge i zs.length with hi | hi
      · rw [List.getElem?_append_left hi] at hy
        exact hz2 i y hy
      · have hi2 : i = zs.length := by
          have := (List.getElem?_eq_some_iff.mp hy).1
          simp at this
          omega
        subst hi2
        simp at hy
        subst hy
        refine .inr ⟨by omega, by omega, s, ?_, dv_ok c2'⟩
        rw [show zs.length - n = j by omega]
        exact c1
    · omega
  refine ⟨zs, ?_, ?_, more_nodup hst hn11 hz2, fun z hz => ?_⟩
  · unfold m__law_more_names callM b__law_more_names
    show run (mSeq _ _ [.fz (.scr ns), .fz (.int at_), .fz (.int count), .un, .un, .un]) = _
    refine mat_nx (eM ns at_ count z0 .un .un) ?_ ?_
    · have : minD (.int count) (.int 11) = some (.int n) := by rw [hn]; rfl
      unfold eM
      simp [-minD, this, f0]
    · refine mat_for (rangeD 0 (count - (n : Int)).toNat) _ ?_ g1 rfl
      unfold eM
      rw [← l0']
      have q1 : z0.length ≤ 100000 := by omega
      simp [q1]
      omega
  · rw [rangeD_len] at hz1
    split at hn <;> omega
  · obtain ⟨i, hi⟩ := List.getElem?_of_mem hz
    rcases hz2 i z hi with ⟨_, s, _, c⟩ | ⟨_, _, s, _, c⟩
    · exact c.name
    · exact c.name
end Sx

set_option Elab.async false
set_option linter.all false
set_option maxRecDepth 100000
set_option maxHeartbeats 4000000
namespace Sx
open PySem L2
def eC (ns : List Int) (at_ count : Int) (zs : List Str) (cs : List Ck) (sf : List Int) (s6 s7 s8 s9 : Sl) : En := [.fz (.scr ns), .fz (.int at_), .fz (.int count), .fz (.lst (zs.map .str)), .ow (cs.map encK), .ow (sf.map .int), s6, s7, s8, s9]
def ckI1 : En → Option Out := (mIfS (fun E => ((mBin (intOp fun i j => .bl (decide (i < j))) (mVarT 8) (mC (.int 3))) E).bind blOf) (mSet 7 (mC (.int 0))) mNext)
def ckI2 : En → Option Out := (mIfS (fun E => ((mBin eqD (mVarT 8) (mC (.int 3))) E).bind blOf) (mSet 7 (mCall 4 m__law_draw (mCons (mVar 0) (mCons (mBin addD (mVarT 1) (mC (.int 1))) (mCons (mBin (intOpC mulOk fun i j => .int (i * j)) (mC (.int 4)) (mVarT 6)) (mCons (mC (.int 1000001)) mNil)))))) mNext)
def ckI3 : En → Option Out := (mIfS (fun E => ((mBin eqD (mVarT 8) (mC (.int 4))) E).bind blOf) (mSet 7 (mC (.int 1000000))) mNext)
def ckB : En → Option Out := (mSeq (mSet 7 (mCall 4 m__law_draw (mCons (mVar 0) (mCons (mBin addD (mVarT 1) (mC (.int 1))) (mCons (mBin (intOpC mulOk fun i j => .int (i * j)) (mC (.int 4)) (mVarT 6)) (mCons (mC (.int 10)) mNil))))))
      (mSeq (mSet 8 (mCall 4 m__law_draw (mCons (mVar 0) (mCons (mBin addD (mVarT 1) (mC (.int 1))) (mCons (mBin addD (mBin (intOpC mulOk fun i j => .int (i * j)) (mC (.int 4)) (mVarT 6)) (mC (.int 1))) (mCons (mC (.int 8)) mNil))))))
      (mSeq ckI1
      (mSeq ckI2
      (mSeq ckI3
      (mSeq (mSet 9 (mCall 4 m__law_draw (mCons (mVar 0) (mCons (mBin addD (mVarT 1) (mC (.int 1))) (mCons (mBin addD (mBin (intOpC mulOk fun i j => .int (i * j)) (mC (.int 4)) (mVarT 6)) (mC (.int 2))) (mCons (mBin addD (mVarT 7) (mC (.int 1))) mNil))))))
      (mSeq (mIfS (fun E => ((mBin eqD (mCall 4 m__law_draw (mCons (mVar 0) (mCons (mBin addD (mVarT 1) (mC (.int 1))) (mCons (mBin addD (mBin (intOpC mulOk fun i j => .int (i * j)) (mC (.int 4)) (mVarT 6)) (mC (.int 3))) (mCons (mC (.int 2)) mNil))))) (mC (.int 0))) E).bind blOf) (mSet 9 (mUn negD (mVarT 9))) mNext)
      (mSeq (mApp 4 (mTup (mCons (mBin ixD (mVarT 3) (mVarT 6)) (mCons (mVar 7) mNil))))
      (mApp 5 (mVar 9))))))))))
theorem ck_ok {ns : List Int} {at_ count : Int} {zs : List Str} {cs : List Ck} {sf : List Int} {k : Nat} {z : Str} {s7 s8 s9 : Sl} (h : 0 ≤ at_) (hk : k < 11) (hz : zs[k]? = some z) (hc : cs.length ≤ 1000) (hf : sf.length ≤ 1000) :
    ∃ e f t8 t9, ckB (eC ns at_ count zs cs sf (.fz (.int k)) s7 s8 s9) = some (.nx (eC ns at_ count zs (cs ++ [(z, e)]) (sf ++ [f]) (.fz (.int k)) (.fz (.int e)) t8 t9)) ∧ 0 ≤ e ∧ e ≤ 1000000 := by
  obtain ⟨e0, a1, a2⟩ := draw_ok ns (at_ := at_ + 1) (k := 4 * (k : Int)) (size := 10) (by omega) (by omega) (by omega)
  obtain ⟨kd, b1, b2⟩ := draw_ok ns (at_ := at_ + 1) (k := 4 * (k : Int) + 1) (size := 8) (by omega) (by omega) (by omega)
  obtain ⟨e3, c1, c2⟩ := draw_ok ns (at_ := at_ + 1) (k := 4 * (k : Int)) (size := 1000001) (by omega) (by omega) (by omega)
  obtain ⟨sg, d1, d2⟩ := draw_ok ns (at_ := at_ + 1) (k := 4 * (k : Int) + 3) (size := 2) (by omega) (by omega) (by omega)
  have m := mulOk_l (i := 4) (j := (k : Int)) (by omega)
  have hx := ix_map (f := D.str) hz
  have e2 : ∀ a b : Int, eqD (.int a) (.int b) = some (.bl (decide (a = b))) := fun a b => rfl
  have mid : ∃ e : Int, (0 ≤ e ∧ e ≤ 1000000) ∧ ∀ (r : En → Option Out), mSeq ckI1 (mSeq ckI2 (mSeq ckI3 r)) (eC ns at_ count zs cs sf (.fz (.int k)) (.fz (.int e0)) (.fz (.int kd)) s9) = r (eC ns at_ count zs cs sf (.fz (.int k)) (.fz (.int e)) (.fz (.int kd)) s9) := by
    by_cases k3 : kd < 3
    · refine ⟨0, by omega, fun r => ?_⟩
      have n3 : ¬ kd = 3 := by omega
      have n4 : ¬ kd = 4 := by omega
      rw [seq_nx (eC ns at_ count zs cs sf (.fz (.int k)) (.fz (.int 0)) (.fz (.int kd)) s9) (by unfold ckI1 eC; simp [k3])]
      rw [seq_nx (eC ns at_ count zs cs sf (.fz (.int k)) (.fz (.int 0)) (.fz (.int kd)) s9) (by unfold ckI2 eC; simp [-eqD, e2, n3])]
      rw [seq_nx (eC ns at_ count zs cs sf (.fz (.int k)) (.fz (.int 0)) (.fz (.int kd)) s9) (by unfold ckI3 eC; simp [-eqD, e2, n4])]
    · by_cases q3 : kd = 3
      · subst q3
        refine ⟨e3, by omega, fun r => ?_⟩
        rw [seq_nx (eC ns at_ count zs cs sf (.fz (.int k)) (.fz (.int e0)) (.fz (.int 3)) s9) (by unfold ckI1 eC; simp)]
        rw [seq_nx (eC ns at_ count zs cs sf (.fz (.int k)) (.fz (.int e3)) (.fz (.int 3)) s9) (by unfold ckI2 eC; simp [-eqD, -addD, addI, e2, m, c1])]
        rw [seq_nx (eC ns at_ count zs cs sf (.fz (.int k)) (.fz (.int e3)) (.fz (.int 3)) s9) (by unfold ckI3 eC; simp [-eqD, e2])]
      · by_cases q4 : kd = 4
        · subst q4
          refine ⟨1000000, by omega, fun r => ?_⟩
          rw [seq_nx (eC ns at_ count zs cs sf (.fz (.int k)) (.fz (.int e0)) (.fz (.int 4)) s9) (by unfold ckI1 eC; simp)]
          rw [seq_nx (eC ns at_ count zs cs sf (.fz (.int k)) (.fz (.int e0)) (.fz (.int 4)) s9) (by unfold ckI2 eC; simp [-eqD, e2])]
          rw [seq_nx (eC ns at_ count zs cs sf (.fz (.int k)) (.fz (.int 1000000)) (.fz (.int 4)) s9) (by unfold ckI3 eC; simp [-eqD, e2])]
        · refine ⟨e0, by omega, fun r => ?_⟩
          rw [seq_nx (eC ns at_ count zs cs sf (.fz (.int k)) (.fz (.int e0)) (.fz (.int kd)) s9) (by unfold ckI1 eC; simp [k3])]
          rw [seq_nx (eC ns at_ count zs cs sf (.fz (.int k)) (.fz (.int e0)) (.fz (.int kd)) s9) (by unfold ckI2 eC; simp [-eqD, e2, q3])]
          rw [seq_nx (eC ns at_ count zs cs sf (.fz (.int k)) (.fz (.int e0)) (.fz (.int kd)) s9) (by unfold ckI3 eC; simp [-eqD, e2, q4])]
  obtain ⟨e, he, mid⟩ := mid
  obtain ⟨f, f1, f2⟩ := draw_ok ns (at_ := at_ + 1) (k := 4 * (k : Int) + 2) (size := e + 1) (by omega) (by omega) (by omega)
  have cl' : cs.length < 100000 := by omega
  have sl' : sf.length < 100000 := by omega
  refine ⟨e, if sg = 0 then -f else f, .fz (.int kd), .fz (.int (if sg = 0 then -f else f)), ?_, he⟩
  unfold ckB
  rw [seq_nx (eC ns at_ count zs cs sf (.fz (.int k)) (.fz (.int e0)) s8 s9) (by unfold eC; simp [-addD, addI, m, a1])]
  rw [seq_nx (eC ns at_ count zs cs sf (.fz (.int k)) (.fz (.int e0)) (.fz (.int kd)) s9) (by unfold eC; simp [-addD, addI, m, b1])]
  rw [mid]
  rw [seq_nx (eC ns at_ count zs cs sf (.fz (.int k)) (.fz (.int e)) (.fz (.int kd)) (.fz (.int f))) (by unfold eC; simp [-addD, addI, m, f1])]
  rw [seq_nx (eC ns at_ count zs cs sf (.fz (.int k)) (.fz (.int e)) (.fz (.int kd)) (.fz (.int (if sg = 0 then -f else f)))) (by
    unfold eC
    by_cases q : sg = 0 <;> simp [-addD, -eqD, e2, addI, m, d1, q])]
  rw [seq_nx (eC ns at_ count zs (cs ++ [(z, e)]) sf (.fz (.int k)) (.fz (.int e)) (.fz (.int kd)) (.fz (.int (if sg = 0 then -f else f)))) (by
    unfold eC
    simp [-ixD, hx, cl', encK])]
  unfold eC
  simp [sl']
theorem law_clocks_ok (ns : List Int) {at_ count : Int} (h : 0 ≤ at_) (hc : 1 ≤ count ∧ count ≤ 6) : ∃ (cs : List Ck) (sf : List Int), m__law_clocks [.scr ns, .int at_, .int count] = some (.tup [.lst (cs.map encK), .lst (sf.map .int)]) ∧ cs.length = count.toNat ∧ goodK cs = true := by
  obtain ⟨zs, st, sh, hst, hsh, f0, l0, p0⟩ := law_names_ok ns (at_ := at_) (count := count) h (by omega)
  have zn : zs.Nodup := more_nodup (n := 11) hst (by omega) fun i z hz => .inl ⟨by have := (List.getElem?_eq_some_iff.mp hz).1; omega, p0 i z hz⟩
  have f0' : m__law_names [.scr ns, .int at_, .int count] = some (.lst (zs.map .str)) := callM_of_F f0
  obtain ⟨E', g1, cs, sf, s6, s7, s8, s9, rfl, h1, h2, h3, h4⟩ := runFor_inv (mg := gM 6) (mb := ckB) (fun j E => ∃ cs sf s6 s7 s8 s9, E = eC ns at_ count zs cs sf s6 s7 s8 s9 ∧ cs.length = j ∧ sf.length = j ∧ nmK cs = zs.take j ∧ ∀ c ∈ cs, 0 ≤ c.2 ∧ c.2 ≤ 1000000) (rangeD 0 count.toNat) 0 (eC ns at_ count zs [] [] .un .un .un .un) ⟨[], [], _, _, _, _, rfl, rfl, rfl, rfl, by simp⟩ fun j d E hd hI => by
    simp only [Nat.zero_add] at hI ⊢
    obtain ⟨cs, sf, s6, s7, s8, s9, rfl, h1, h2, h3, h4⟩ := hI
    obtain ⟨rfl, hj⟩ := range_at hd
    rw [Int.zero_add]
    have gz := List.getElem?_eq_getElem (l := zs) (i := j) (by omega)
    obtain ⟨e, f, t8, t9, r1, r2⟩ := ck_ok (ns := ns) (at_ := at_) (count := count) (cs := cs) (sf := sf) (s7 := s7) (s8 := s8) (s9 := s9) h (by omega) gz (by omega) (by omega)
    refine ⟨eC ns at_ count zs cs sf (.fz (.int j)) s7 s8 s9, _, rfl, .inl r1, _, _, _, _, _, _, rfl, ?_, ?_, ?_, fun c hc => ?_⟩
    · rw [List.length_append, List.length_singleton]; omega
    · rw [List.length_append, List.length_singleton]; omega
    · unfold nmK at h3 ⊢
      rw [List.map_append, h3, List.take_add_one, gz]
      rfl
    · rcases List.mem_append.mp hc with z | z
      · exact h4 c z
      · rw [List.mem_singleton.mp z]
        exact r2
  rw [rangeD_len, Nat.zero_add] at h1 h2 h3
  rw [List.take_of_length_le (by omega)] at h3
  refine ⟨cs, sf, ?_, h1, ?_⟩
  · unfold m__law_clocks callM b__law_clocks
    show run (mSeq _ _ [.fz (.scr ns), .fz (.int at_), .fz (.int count), .un, .un, .un, .un, .un, .un, .un]) = _
    refine mat_nx [.fz (.scr ns), .fz (.int at_), .fz (.int count), .fz (.lst (zs.map .str)), .un, .un, .un, .un, .un, .un] (by simp [f0']) ?_
    refine mat_nx [.fz (.scr ns), .fz (.int at_), .fz (.int count), .fz (.lst (zs.map .str)), .ow [], .un, .un, .un, .un, .un] rfl ?_
    refine mat_nx (eC ns at_ count zs [] [] .un .un .un .un) rfl ?_
    refine mat_for (rangeD 0 count.toNat) _ ?_ g1 rfl
    unfold eC
    simp
    omega
  · unfold goodK
    rw [decide_eq_true (by omega), Bool.true_and, h3, decide_eq_true zn, Bool.and_true, List.all_eq_true]
    intro c hc
    unfold ckOk
    rw [decide_eq_true (h4 c hc), Bool.and_true]
    have : c.1 ∈ zs := by rw [← h3]; exact List.mem_map_of_mem hc
    obtain ⟨i, hi⟩ := List.getElem?_of_mem this
    obtain ⟨s, _, g⟩ := p0 i _ hi
    exact g.name
end Sx

set_option Elab.async false
set_option linter.all false
set_option maxRecDepth 100000
set_option maxHeartbeats 4000000
namespace Sx
open PySem L2
def eP (ns : List Int) (at_ : Int) (zs : List Str) (cs : List Ck) (sc base : Int) (es : List Spn) (s7 s8 s9 s10 s11 s12 s13 : Sl) : En := [.fz (.scr ns), .fz (.int at_), .fz (.lst (zs.map .str)), .fz (.lst (cs.map encK)), .fz (.int sc), .fz (.int base), .ow (es.map encS), s7, s8, s9, s10, s11, s12, s13]
def spnL : En → Option Out := (mIfS (mAnd (fun E => ((mBin eqD (mBin ixD (mVarT 13) (mC (.int 2))) (mVarT 9)) E).bind blOf) (fun E => ((mBin ixD (mVarT 13) (mC (.int 3))) E).map (fun d => !isN d))) (mSeq (mSet 10 (mBin addD (mBin ixD (mVarT 13) (mC (.int 3))) (mCall 4 m__law_draw (mCons (mVar 0) (mCons (mVar 8) (mCons (mC (.int 1)) (mCons (mBin addD (mBin (intOp fun i j => .int (i - j)) (mBin ixD (mVarT 13) (mC (.int 4))) (mBin ixD (mVarT 13) (mC (.int 3)))) (mC (.int 1))) mNil)))))))
      (mSet 11 (mBin addD (mVarT 10) (mCall 4 m__law_draw (mCons (mVar 0) (mCons (mVar 8) (mCons (mC (.int 2)) (mCons (mBin addD (mBin (intOp fun i j => .int (i - j)) (mBin ixD (mVarT 13) (mC (.int 4))) (mVarT 10)) (mC (.int 1))) mNil)))))))) mNext)
def spnI : En → Option Out := (mIfS (mAnd (fun E => ((mBin (intOp fun i j => .bl (decide (j < i))) (mVarT 7) (mC (.int 0))) E).bind blOf) (fun E => ((mBin (intOp fun i j => .bl (decide (j < i))) (mCall 4 m__law_draw (mCons (mVar 0) (mCons (mVar 8) (mCons (mC (.int 3)) (mCons (mC (.int 4)) mNil))))) (mC (.int 0))) E).bind blOf)) (mSeq (mSet 13 (mBin ixD (mVarT 6) (mCall 4 m__law_draw (mCons (mVar 0) (mCons (mVar 8) (mCons (mC (.int 4)) (mCons (mVar 7) mNil)))))))
      (mSeq (mSet 12 (mBin ixD (mVarT 13) (mC (.int 0))))
      spnL)) mNext)
def spnH : En → Option Out := (mIfS (fun E => ((mBin eqD (mCall 4 m__law_draw (mCons (mVar 0) (mCons (mVar 8) (mCons (mC (.int 5)) (mCons (mC (.int 3)) mNil))))) (mC (.int 0))) E).bind blOf) (mSeq (mSet 10 (mC .non))
      (mSet 11 (mC .non))) mNext)
def spnB : En → Option Out := (mSeq (mSet 8 (mBin addD (mVarT 1) (mBin (intOpC (fun _ j => decide (0 < j)) fun i j => .int (i % j)) (mUn intD (mVarT 7)) (mC (.int 20)))))
      (mSeq (mSet 9 (mBin ixD (mBin ixD (mVarT 3) (mCall 4 m__law_draw (mCons (mVar 0) (mCons (mVar 8) (mCons (mC (.int 0)) (mCons (mUn lenD (mVarT 3)) mNil)))))) (mC (.int 0))))
      (mSeq (mSet 10 (mBin (intOp fun i j => .int (i - j)) (mBin addD (mVarT 5) (mCall 4 m__law_draw (mCons (mVar 0) (mCons (mVar 8) (mCons (mC (.int 1)) (mCons (mBin addD (mBin (intOpC mulOk fun i j => .int (i * j)) (mC (.int 2)) (mVarT 4)) (mC (.int 1))) mNil)))))) (mVarT 4)))
      (mSeq (mSet 11 (mBin addD (mVarT 10) (mCall 4 m__law_draw (mCons (mVar 0) (mCons (mVar 8) (mCons (mC (.int 2)) (mCons (mBin addD (mVarT 4) (mC (.int 1))) mNil)))))))
      (mSeq (mSet 12 (mC .non))
      (mSeq spnI
      (mSeq spnH
      (mApp 6 (mTup (mCons (mBin ixD (mVarT 2) (mVarT 7)) (mCons (mVar 12) (mCons (mVar 9) (mCons (mVar 10) (mCons (mVar 11) mNil))))))))))))))
def okU (u : Spn) : Prop := (u.s = none ∧ u.e = none) ∨ ∃ a b, u.s = some a ∧ u.e = some b ∧ a ≤ b
def inU (es : List Spn) (c : Str) (p : Option Str) (a b : Int) : Prop := p = none ∨ ∃ (j : Nat) (u : Spn), es[j]? = some u ∧ p = some u.n ∧ (u.c ≠ c ∨ u.s = none ∨ ∃ x y, u.s = some x ∧ u.e = some y ∧ x ≤ a ∧ b ≤ y)
theorem eqSS (a b : Str) : eqD (.str a) (.str b) = some (.bl (decide (a = b))) := rfl
theorem spnL_ok {ns : List Int} {at_ sc base cell : Int} {zs : List Str} {cs : List Ck} {es : List Spn} {k : Nat} {u : Spn} {c : Str} {a b : Int} {s12 : Sl} (h : 0 ≤ cell) (hu : okU u) (hab : a ≤ b) :
    ∃ a' b', spnL (eP ns at_ zs cs sc base es (.fz (.int k)) (.fz (.int cell)) (.fz (.str c)) (.fz (.int a)) (.fz (.int b)) s12 (.fz (encS u))) = some (.nx (eP ns at_ zs cs sc base es (.fz (.int k)) (.fz (.int cell)) (.fz (.str c)) (.fz (.int a')) (.fz (.int b')) s12 (.fz (encS u)))) ∧ a' ≤ b' ∧ (u.c ≠ c ∨ u.s = none ∨ ∃ x y, u.s = some x ∧ u.e = some y ∧ x ≤ a' ∧ b' ≤ y) := by
  have u2 : ixD (encS u) (.int 2) = some (.str u.c) := rfl
  have u3 : ixD (encS u) (.int 3) = some (oI u.s) := rfl
  have u4 : ixD (encS u) (.int 4) = some (oI u.e) := rfl
  by_cases hc : u.c = c
  · rcases hu with ⟨e1, e2⟩ | ⟨x, y, e1, e2, e3⟩
    · rw [e1] at u3
      refine ⟨a, b, ?_, hab, .inr (.inl e1)⟩
      unfold spnL eP
      simp [-ixD, -eqD, eqSS, u2, u3, hc, oI]
    · rw [e1] at u3
      rw [e2] at u4
      obtain ⟨r, d1, d2⟩ := draw_ok ns (at_ := cell) (k := 1) (size := y - x + 1) h (by omega) (by omega)
      obtain ⟨r', f1, f2⟩ := draw_ok ns (at_ := cell) (k := 2) (size := y - (x + r) + 1) h (by omega) (by omega)
      refine ⟨x + r, x + r + r', ?_, by omega, .inr (.inr ⟨x, y, e1, e2, by omega, by omega⟩)⟩
      unfold spnL eP
      simp [-ixD, -eqD, -addD, addI, eqSS, u2, u3, u4, hc, oI, d1, f1]
  · refine ⟨a, b, ?_, hab, .inl hc⟩
    unfold spnL eP
    simp [-ixD, -eqD, eqSS, u2, u3, hc]
theorem spnI_ok {ns : List Int} {at_ sc base cell : Int} {zs : List Str} {cs : List Ck} {es : List Spn} {k : Nat} {c : Str} {a b : Int} {s13 : Sl} (h : 0 ≤ cell) (hl : es.length = k) (hu : ∀ u ∈ es, okU u) (hab : a ≤ b) :
    ∃ a' b' p t13, spnI (eP ns at_ zs cs sc base es (.fz (.int k)) (.fz (.int cell)) (.fz (.str c)) (.fz (.int a)) (.fz (.int b)) (.fz .non) s13) = some (.nx (eP ns at_ zs cs sc base es (.fz (.int k)) (.fz (.int cell)) (.fz (.str c)) (.fz (.int a')) (.fz (.int b')) (.fz (oS p)) t13)) ∧ a' ≤ b' ∧ inU es c p a' b' := by
  by_cases k0 : k = 0
  · subst k0
    refine ⟨a, b, none, s13, ?_, hab, .inl rfl⟩
    unfold spnI eP
    simp [oS]
  · obtain ⟨r, d1, d2⟩ := draw_ok ns (at_ := cell) (k := 3) (size := 4) h (by omega) (by omega)
    have kp : 0 < k := by omega
    have kp' : (0 : Int) < (k : Int) := by omega
    by_cases r0 : r = 0
    · subst r0
      refine ⟨a, b, none, s13, ?_, hab, .inl rfl⟩
      unfold spnI eP
      simp [kp, d1, oS]
    · have rp : 0 < r := by omega
      obtain ⟨j, f1, f2⟩ := draw_ok ns (at_ := cell) (k := 4) (size := (k : Int)) h (by omega) (by omega)
      obtain ⟨j, rfl⟩ : ∃ n : Nat, j = n := ⟨j.toNat, by omega⟩
      have gu := List.getElem?_eq_getElem (l := es) (i := j) (by omega)
      generalize es[j] = u at gu
      have gx := ix_map (f := encS) gu
      have u0 : ixD (encS u) (.int 0) = some (.str u.n) := rfl
      obtain ⟨a', b', l1, l2, l3⟩ := spnL_ok (ns := ns) (at_ := at_) (sc := sc) (base := base) (zs := zs) (cs := cs) (es := es) (k := k) (c := c) (s12 := .fz (.str u.n)) h (hu u (List.mem_of_getElem? gu)) hab
      refine ⟨a', b', some u.n, .fz (encS u), ?_, l2, .inr ⟨j, u, gu, rfl, l3⟩⟩
      unfold spnI
      have hc : (mAnd (fun E => ((mBin (intOp fun i j => .bl (decide (j < i))) (mVarT 7) (mC (.int 0))) E).bind blOf) (fun E => ((mBin (intOp fun i j => .bl (decide (j < i))) (mCall 4 m__law_draw (mCons (mVar 0) (mCons (mVar 8) (mCons (mC (.int 3)) (mCons (mC (.int 4)) mNil))))) (mC (.int 0))) E).bind blOf)) (eP ns at_ zs cs sc base es (.fz (.int k)) (.fz (.int cell)) (.fz (.str c)) (.fz (.int a)) (.fz (.int b)) (.fz .non) s13) = some true := by
        unfold eP
        simp [kp, d1, rp]
      show ((mAnd _ _ _).bind _) = _
      rw [hc]
      show (mSeq _ (mSeq _ spnL)) _ = _
      rw [seq_nx (eP ns at_ zs cs sc base es (.fz (.int k)) (.fz (.int cell)) (.fz (.str c)) (.fz (.int a)) (.fz (.int b)) (.fz .non) (.fz (encS u))) (by unfold eP; simp [-ixD, f1, gx])]
      rw [seq_nx (eP ns at_ zs cs sc base es (.fz (.int k)) (.fz (.int cell)) (.fz (.str c)) (.fz (.int a)) (.fz (.int b)) (.fz (.str u.n)) (.fz (encS u))) (by unfold eP; simp [-ixD, u0])]
      exact l1
theorem spnB_ok {ns : List Int} {at_ sc base : Int} {zs : List Str} {cs : List Ck} {es : List Spn} {k : Nat} {z : Str} {s8 s9 s10 s11 s12 s13 : Sl} (h : 0 ≤ at_) (hs : 0 < sc ∧ sc ≤ 1000000) (hk : zs[k]? = some z) (hcs : 0 < cs.length ∧ cs.length ≤ 1000) (hl : es.length = k) (hkk : k ≤ 1000) (hu : ∀ u ∈ es, okU u) :
    ∃ x t8 t9 t10 t11 t12 t13 a b, spnB (eP ns at_ zs cs sc base es (.fz (.int k)) s8 s9 s10 s11 s12 s13) = some (.nx (eP ns at_ zs cs sc base (es ++ [x]) (.fz (.int k)) t8 t9 t10 t11 t12 t13)) ∧ okU x ∧ x.n = z ∧ x.c ∈ nmK cs ∧ inU es x.c x.p a b ∧ (x.s = none ∨ x.s = some a ∧ x.e = some b) := by
  obtain ⟨cell, hcell, hce⟩ : ∃ cell : Int, 0 ≤ cell ∧ cell = at_ + (k : Int) % 20 := ⟨_, by omega, rfl⟩
  obtain ⟨j, a1, a2⟩ := draw_ok ns (at_ := cell) (k := 0) (size := (cs.length : Int)) hcell (by omega) (by omega)
  obtain ⟨r1, b1, b2⟩ := draw_ok ns (at_ := cell) (k := 1) (size := 2 * sc + 1) hcell (by omega) (by omega)
  obtain ⟨r2, c1, c2⟩ := draw_ok ns (at_ := cell) (k := 2) (size := sc + 1) hcell (by omega) (by omega)
  obtain ⟨r5, d1, d2⟩ := draw_ok ns (at_ := cell) (k := 5) (size := 3) hcell (by omega) (by omega)
  obtain ⟨j, rfl⟩ : ∃ n : Nat, j = n := ⟨j.toNat, by omega⟩
  have gc := List.getElem?_eq_getElem (l := cs) (i := j) (by omega)
  generalize cs[j] = ck at gc
  have gx := ix_map (f := encK) gc
  have k0 : ixD (encK ck) (.int 0) = some (.str ck.1) := rfl
  have gz := ix_map (f := D.str) hk
  have m := mulOk_l (i := 2) (j := sc) (by omega)
  have csl : cs.length ≤ 100000 := by omega
  have esl : es.length < 100000 := by omega
  obtain ⟨a, b, p, t13, i1, i2, i3⟩ := spnI_ok (ns := ns) (at_ := at_) (sc := sc) (base := base) (cell := cell) (zs := zs) (cs := cs) (es := es) (k := k) (c := ck.1) (a := base + r1 - sc) (b := base + r1 - sc + r2) (s13 := s13) hcell hl hu (by omega)
  refine ⟨⟨z, p, ck.1, if r5 = 0 then none else some a, if r5 = 0 then none else some b⟩, .fz (.int cell), .fz (.str ck.1), .fz (oI (if r5 = 0 then none else some a)), .fz (oI (if r5 = 0 then none else some b)), .fz (oS p), t13, a, b, ?_, ?_, rfl, List.mem_map_of_mem (List.mem_of_getElem? gc), i3, ?_⟩
  · unfold spnB
    rw [seq_nx (eP ns at_ zs cs sc base es (.fz (.int k)) (.fz (.int cell)) s9 s10 s11 s12 s13) (by unfold eP; simp [hce])]
    rw [seq_nx (eP ns at_ zs cs sc base es (.fz (.int k)) (.fz (.int cell)) (.fz (.str ck.1)) s10 s11 s12 s13) (by unfold eP; simp [-ixD, a1, gx, k0, csl])]
    rw [seq_nx (eP ns at_ zs cs sc base es (.fz (.int k)) (.fz (.int cell)) (.fz (.str ck.1)) (.fz (.int (base + r1 - sc))) s11 s12 s13) (by unfold eP; simp [-addD, addI, m, b1])]
    rw [seq_nx (eP ns at_ zs cs sc base es (.fz (.int k)) (.fz (.int cell)) (.fz (.str ck.1)) (.fz (.int (base + r1 - sc))) (.fz (.int (base + r1 - sc + r2))) s12 s13) (by unfold eP; simp [-addD, addI, c1])]
    rw [seq_nx (eP ns at_ zs cs sc base es (.fz (.int k)) (.fz (.int cell)) (.fz (.str ck.1)) (.fz (.int (base + r1 - sc))) (.fz (.int (base + r1 - sc + r2))) (.fz .non) s13) rfl]
    rw [seq_nx _ i1]
    rw [seq_nx (eP ns at_ zs cs sc base es (.fz (.int k)) (.fz (.int cell)) (.fz (.str ck.1)) (.fz (oI (if r5 = 0 then none else some a))) (.fz (oI (if r5 = 0 then none else some b))) (.fz (oS p)) t13) (by
      unfold spnH eP
      by_cases q : r5 = 0 <;> simp [d1, q, oI])]
    unfold eP
    simp [-ixD, gz, esl, encS]
  · unfold okU
    by_cases q : r5 = 0
    · left; simp [q]
    · right; simp [q]; exact i2
  · by_cases q : r5 = 0
    · left; simp [q]
    · right; simp [q]
end Sx

set_option Elab.async false
set_option linter.all false
set_option maxRecDepth 100000
set_option maxHeartbeats 4000000
namespace Sx
open PySem L2
theorem foldO_one {S α : Type} (st : S → α → Option S) : ∀ (xs : List α) (s : S) (x : α), foldO st s (xs ++ [x]) = (foldO st s xs).bind fun s' => st s' x
  | [], s, x => by
    show (st s x).bind (fun s' => some s') = st s x
    cases st s x <;> rfl
  | y :: xs, s, x => by
    show (st s y).bind _ = ((st s y).bind _).bind _
    cases st s y with
    | none => rfl
    | some s' => exact foldO_one st xs s' x
theorem spOk_of {cn : List Str} {es : List Spn} {x : Spn} {a b : Int} (hn : isName x.n = true) (hni : x.n ∉ nmS es) (hc : x.c ∈ cn) (ho : okU x) (nd : (nmS es).Nodup) (hin : inU es x.c x.p a b) (hab : x.s = none ∨ x.s = some a ∧ x.e = some b) (hes : ∀ u ∈ es, okU u) : spOk cn es x = true := by
  unfold spOk
  have e1 : decide (x.s.isNone = x.e.isNone) = true := by
    rcases ho with ⟨h1, h2⟩ | ⟨p, q, h1, h2, _⟩ <;> rw [h1, h2] <;> rfl
  have e2 : ok3 x = true := by
    unfold ok3
    rcases ho with ⟨h1, h2⟩ | ⟨p, q, h1, h2, h3⟩ <;> rw [h1, h2]
    exact decide_eq_true h3
  have e3 : parIn es x = true ∧ parLies es x = true := by
    unfold parIn parLies
    rcases hin with hp | ⟨j, u, gu, hp, hl⟩
    · rw [hp]; exact ⟨rfl, rfl⟩
    · rw [hp]
      have gn : (nmS es)[j]? = some u.n := by unfold nmS; rw [List.getElem?_map, gu]; rfl
      obtain ⟨v, v1, v2⟩ := findS_at gn fun i hi hh => by
        have := (List.getElem?_inj (List.getElem?_eq_some_iff.mp hh).1 nd).mp (hh.trans gn.symm)
        omega
      have : v = u := by rw [gu] at v1; cases v1; rfl
      subst this
      refine ⟨decide_eq_true (List.mem_of_getElem? gn), ?_⟩
      dsimp only
      rw [v2]
      dsimp only
      unfold lies
      rcases hab with hs | ⟨hs, he⟩
      · rw [hs]
      · rw [hs, he]
        rcases hl with hl | hl | ⟨y, w, y1, y2, y3, y4⟩
        · have hl' : x.c ≠ v.c := fun e => hl e.symm
          cases v.s <;> cases v.e <;> simp [hl']
        · rw [hl]
        · rw [y1, y2]
          simp [y3, y4]
  rw [hn, decide_eq_false hni, decide_eq_true hc, e3.1, e1, e2, e3.2]
  rfl
theorem law_spans_ok (ns : List Int) {at_ sc base : Int} {zs : List Str} {cs : List Ck} (h : 0 ≤ at_) (hs : 0 < sc ∧ sc ≤ 1000000) (hz : zs.length ≤ 100) (nd : zs.Nodup) (hn : ∀ z ∈ zs, isName z = true) (hc : 0 < cs.length ∧ cs.length ≤ 1000) :
    ∃ es : List Spn, m__law_spans [.scr ns, .int at_, .lst (zs.map .str), .lst (cs.map encK), .int sc, .int base] = some (.lst (es.map encS)) ∧ goodS (nmK cs) es = true ∧ es.length = zs.length := by
  obtain ⟨E', g1, es, s7, s8, s9, s10, s11, s12, s13, rfl, h1, h2, h3, h4⟩ := runFor_inv (mg := gM 7) (mb := spnB) (fun j E => ∃ es s7 s8 s9 s10 s11 s12 s13, E = eP ns at_ zs cs sc base es s7 s8 s9 s10 s11 s12 s13 ∧ es.length = j ∧ nmS es = zs.take j ∧ (∀ u ∈ es, okU u) ∧ foldO (stS (nmK cs)) [] es = some es) (rangeD 0 zs.length) 0 (eP ns at_ zs cs sc base [] .un .un .un .un .un .un .un) ⟨[], _, _, _, _, _, _, _, rfl, rfl, rfl, by simp, rfl⟩ fun j d E hd hI => by
    simp only [Nat.zero_add] at hI ⊢
    obtain ⟨es, s7, s8, s9, s10, s11, s12, s13, rfl, h1, h2, h3, h4⟩ := hI
    obtain ⟨rfl, hj⟩ := range_at hd
    rw [Int.zero_add]
    have gz := List.getElem?_eq_getElem (l := zs) (i := j) hj
    obtain ⟨x, t8, t9, t10, t11, t12, t13, a, b, r1, r2, r3, r4, r5, r6⟩ := spnB_ok (ns := ns) (at_ := at_) (sc := sc) (base := base) (cs := cs) (es := es) (s8 := s8) (s9 := s9) (s10 := s10) (s11 := s11) (s12 := s12) (s13 := s13) h hs gz hc h1 (by omega) h3
    have nde : (nmS es).Nodup := by
      rw [h2]
      exact nd.sublist (List.take_sublist _ _)
    have hni : x.n ∉ nmS es := by
      rw [h2, r3]
      intro hm
      obtain ⟨i, hi⟩ := List.getElem?_of_mem hm
      have hil := (List.getElem?_eq_some_iff.mp hi).1
      rw [List.length_take] at hil
      rw [List.getElem?_take_of_lt (by omega)] at hi
      have := (List.getElem?_inj (by omega) nd).mp (hi.trans gz.symm)
      omega
    have ok := spOk_of (by rw [r3]; exact hn _ (List.mem_of_getElem? gz)) hni r4 r2 nde r5 r6 h3
    refine ⟨eP ns at_ zs cs sc base es (.fz (.int j)) s8 s9 s10 s11 s12 s13, _, rfl, .inl r1, _, _, _, _, _, _, _, _, rfl, ?_, ?_, fun u hu => ?_, ?_⟩
    · rw [List.length_append, List.length_singleton]; omega
    · unfold nmS at h2 ⊢
      rw [List.map_append, h2, List.take_add_one, gz, List.map_singleton, r3]
      rfl
    · rcases List.mem_append.mp hu with z | z
      · exact h3 u z
      · rw [List.mem_singleton.mp z]
        exact r2
    · rw [foldO_one, h4]
      show stS (nmK cs) es x = _
      unfold stS
      rw [if_pos ok]
  rw [rangeD_len, Nat.zero_add] at h1
  refine ⟨es, ?_, ?_, h1⟩
  · have zl : zs.length ≤ 100000 := by omega
    unfold m__law_spans callM b__law_spans
    show run (mSeq _ _ [.fz (.scr ns), .fz (.int at_), .fz (.lst (zs.map .str)), .fz (.lst (cs.map encK)), .fz (.int sc), .fz (.int base), .un, .un, .un, .un, .un, .un, .un, .un]) = _
    refine mat_nx (eP ns at_ zs cs sc base [] .un .un .un .un .un .un .un) rfl ?_
    refine mat_for (rangeD 0 zs.length) _ ?_ g1 rfl
    unfold eP
    simp [zl]
    omega
  · unfold goodS
    rw [h4]
    rfl
end Sx

set_option Elab.async false
set_option linter.all false
set_option maxRecDepth 100000
set_option maxHeartbeats 4000000
namespace Sx
open PySem L2
/-! ### what is drawn stays typed -/
def TL {α : Type} (f : α → D) (Q : α → Prop) (n : Nat) (ds : List D) : Prop := ∃ xs : List α, ds = xs.map f ∧ xs.length ≤ n ∧ ∀ x ∈ xs, Q x
section
variable {α : Type} {f : α → D} {Q : α → Prop}
theorem TL.cut {n : Nat} {ds : List D} (h : TL f Q n ds) (lo hi : Option Int) : TL f Q n (cutD ds lo hi) := by
  obtain ⟨xs, rfl, h1, h2⟩ := h
  unfold cutD
  refine ⟨(xs.drop (HT.sIx (xs.map f).length 0 lo)).take (HT.sIx (xs.map f).length (xs.map f).length hi - HT.sIx (xs.map f).length 0 lo), by rw [List.map_take, List.map_drop], ?_, fun x hx => h2 x (List.mem_of_mem_drop (List.mem_of_mem_take hx))⟩
  rw [List.length_take, List.length_drop]
  omega
theorem TL.len {n : Nat} {ds : List D} (h : TL f Q n ds) : ds.length ≤ n := by
  obtain ⟨xs, rfl, h1, _⟩ := h
  rw [List.length_map]
  exact h1
theorem TL.cat {m n : Nat} {a b : List D} (h : TL f Q m a) (g : TL f Q n b) : TL f Q (m + n) (a ++ b) := by
  obtain ⟨xs, rfl, h1, h2⟩ := h
  obtain ⟨ys, rfl, g1, g2⟩ := g
  refine ⟨xs ++ ys, by rw [List.map_append], by rw [List.length_append]; omega, fun x hx => ?_⟩
  rcases List.mem_append.mp hx with z | z
  · exact h2 x z
  · exact g2 x z
theorem TL.up {m n : Nat} {a : List D} (h : TL f Q m a) (hn : m ≤ n) : TL f Q n a := by
  obtain ⟨xs, rfl, h1, h2⟩ := h
  exact ⟨xs, rfl, by omega, h2⟩
theorem TL.one {x : α} (h : Q x) : TL f Q 1 [f x] := ⟨[x], rfl, Nat.le_refl _, fun y hy => by rw [List.mem_singleton.mp hy]; exact h⟩
theorem TL.nil : TL f Q 0 [] := ⟨[], rfl, Nat.le_refl _, fun y hy => (nomatch hy)⟩
end
theorem cat_at {a b : En → Option (List D)} {E : En} {x y : List D} (h : a E = some x) (g : b E = some y) (hl : x.length + y.length ≤ 100000) : ((mList a E).bind fun x => (mList b E).bind fun y => catD x y) = some (x ++ y) := by
  show (((a E).map D.lst).bind fun x => ((b E).map D.lst).bind fun y => catD x y) = _
  rw [h, g]
  show (if x.length + y.length ≤ 100000 then some (x ++ y) else none) = _
  rw [if_pos hl]
def okR (T : List D → Prop) (o : Option Out) : Prop := ∃ ds, run o = some (.lst ds) ∧ T ds
theorem ok_if {T : List D → Prop} {c : En → Option Bool} {m : En → Option (List D)} {r : En → Option Out} {E : En} (b : Bool) (h : c E = some b) (h1 : b = true → ∃ ds, m E = some ds ∧ T ds) (h2 : b = false → okR T (r E)) : okR T (mSeq (mIfS c (mRetF m) mNext) r E) := by
  show okR T (((c E).bind _).bind _)
  rw [h]
  cases b with
  | true =>
    obtain ⟨ds, g1, g2⟩ := h1 rfl
    refine ⟨ds, ?_, g2⟩
    show run (((m E).map Out.rf).bind _) = _
    rw [g1]
    rfl
  | false => exact h2 rfl
theorem ok_nx {T : List D → Prop} {a b : En → Option Out} {E : En} (E1 : En) (h : a E = some (.nx E1)) (k : okR T (b E1)) : okR T (mSeq a b E) := by
  rw [seq_nx E1 h]
  exact k
theorem ok_end {T : List D → Prop} {m : En → Option (List D)} {E : En} {ds : List D} (h : m E = some ds) (t : T ds) : okR T (mRetF m E) := by
  refine ⟨ds, ?_, t⟩
  show run ((m E).map Out.rf) = _
  rw [h]
  rfl
theorem callM_ok {T : List D → Prop} {n N : Nat} {b : En → Option Out} {ds : List D} (h : okR T (b (ds.map Sl.fz ++ List.replicate (N - ds.length) Sl.un))) : ∃ es, callM n N b ds = some (.lst es) ∧ T es := h
/-! ### bad names -/
def okTx (z : Str) : Prop := z.length ≤ 1000 ∧ PyData.strOk z = true
theorem okTx_dec {z : Str} (h : (decide (z.length ≤ 1000) && PyData.strOk z) = true) : okTx z := by
  rw [Bool.and_eq_true] at h
  exact ⟨of_decide_eq_true h.1, h.2⟩
def bad8 : List Str := ["", "Ab", "7b", "a_b", "abcdefghijklm", "a b", "ab ", "a-"]
theorem resv_ok : ∀ z ∈ resv, okTx z := fun z hz => okTx_dec (by
  have : ∀ z ∈ resv, (decide (z.length ≤ 1000) && PyData.strOk z) = true := by decide +kernel
  exact this z hz)
theorem bad8_ok : ∀ z ∈ bad8, okTx z := fun z hz => okTx_dec (by
  have : ∀ z ∈ bad8, (decide (z.length ≤ 1000) && PyData.strOk z) = true := by decide +kernel
  exact this z hz)
theorem bad_name_ok (ns : List Int) {at_ : Int} (h : 0 ≤ at_) : ∃ z, m__law_bad_name [.scr ns, .int at_] = some (.str z) ∧ okTx z := by
  obtain ⟨r, a1, a2⟩ := draw_ok ns (at_ := at_) (k := 11) (size := 12) h (by omega) (by omega)
  obtain ⟨q, b1, b2⟩ := draw_ok ns (at_ := at_) (k := 10) (size := 12) h (by omega) (by omega)
  obtain ⟨r, rfl⟩ : ∃ n : Nat, r = n := ⟨r.toNat, by omega⟩
  have rl : resv.length = 12 := by decide
  have gr := List.getElem?_eq_getElem (l := resv) (i := r) (by omega)
  have rw' := resv_ok _ (List.mem_of_getElem? gr)
  generalize resv[r] = w at gr rw'
  have gx := ix_map (f := D.str) gr
  obtain ⟨m, hm⟩ : ∃ m : Nat, minD (.int 8) (.int q) = some (.int m) ∧ m ≤ 8 := ⟨(if q < 8 then q else 8).toNat, by
    show (some (D.int (if q < 8 then q else 8))) = _ ∧ _
    split
    · exact ⟨by rw [Int.toNat_of_nonneg (by omega)], by omega⟩
    · exact ⟨rfl, by decide⟩⟩
  have ga := List.getElem?_eq_getElem (l := bad8 ++ [w]) (i := m) (by rw [List.length_append]; show m < 8 + 1; omega)
  have gm := List.mem_of_getElem? ga
  obtain ⟨v, ga, gm⟩ : ∃ v, (bad8 ++ [w])[m]? = some v ∧ v ∈ bad8 ++ [w] := ⟨_, ga, gm⟩
  have gy := ix_map (f := D.str) ga
  refine ⟨v, ?_, ?_⟩
  · unfold m__law_bad_name callM b__law_bad_name
    show run (mSeq _ _ [.fz (.scr ns), .fz (.int at_), .un, .un]) = _
    refine mat_nx [.fz (.scr ns), .fz (.int at_), .fz (.lst (resv.map .str)), .un] rfl ?_
    refine mat_nx [.fz (.scr ns), .fz (.int at_), .fz (.lst (resv.map .str)), .fz (.lst ((bad8 ++ [w]).map .str))] ?_ ?_
    · generalize resv.map D.str = R at gx
      simp [-ixD, a1, gx]
      rfl
    · generalize resv.map D.str = R
      generalize (bad8 ++ [w]).map D.str = B at gy
      simp [-ixD, -minD, b1, hm.1, gy]
      rfl
  · rcases List.mem_append.mp gm with z | z
    · exact bad8_ok v z
    · rw [List.mem_singleton.mp z]
      exact rw'
/-! ### spoilt clocks -/
def qK (c : Ck) : Prop := okTx c.1
theorem shK {cs : List Ck} (h : ∀ c ∈ cs, qK c) : ∀ c ∈ cs, okD (encK c) = true := okK fun c hc => (h c hc).2
theorem eq_nilK {cs : List Ck} (h : ∀ c ∈ cs, qK c) : eqB (.lst (cs.map encK)) (.lst []) = some cs.isEmpty := by
  have s1 := shaped_of (d := .lst (cs.map encK)) (by rw [okD]; exact okDs_map (shK h)) (by
    rw [depD]
    have := depDs_map (f := encK) (n := 1) (xs := cs) fun c _ => dpK c
    omega)
  have s2 : SeqAt.shaped (D.lst []).py = true := by decide
  show (if SeqAt.shaped (D.lst (cs.map encK)).py = true ∧ SeqAt.shaped (D.lst []).py = true then some (PyData.eqv (D.lst (cs.map encK)).py (D.lst []).py) else none) = _
  rw [if_pos ⟨s1, s2⟩]
  cases cs <;> rfl
theorem tn_ok (i : Nat) (h : i < 7) : ∃ w, (strI (.int (i : Int))).bind (addD (.str "t")) = some (.str w) ∧ okTx w := by
  match i, h with
  | 0, _ => exact ⟨_, rfl, okTx_dec (by decide +kernel)⟩
  | 1, _ => exact ⟨_, rfl, okTx_dec (by decide +kernel)⟩
  | 2, _ => exact ⟨_, rfl, okTx_dec (by decide +kernel)⟩
  | 3, _ => exact ⟨_, rfl, okTx_dec (by decide +kernel)⟩
  | 4, _ => exact ⟨_, rfl, okTx_dec (by decide +kernel)⟩
  | 5, _ => exact ⟨_, rfl, okTx_dec (by decide +kernel)⟩
  | 6, _ => exact ⟨_, rfl, okTx_dec (by decide +kernel)⟩
theorem eqII (a b : Int) : eqD (.int a) (.int b) = some (.bl (decide (a = b))) := rfl
end Sx

set_option Elab.async false
set_option linter.all false
set_option maxRecDepth 100000
set_option maxHeartbeats 4000000
namespace Sx
open PySem L2
theorem cat_at2 {a : En → Option D} {b : En → Option (List D)} {E : En} {x y : List D} (h : a E = some (.lst x)) (g : b E = some y) (hl : x.length + y.length ≤ 100000) : ((a E).bind fun x => (mList b E).bind fun y => catD x y) = some (x ++ y) := by
  show ((a E).bind fun x => ((b E).map D.lst).bind fun y => catD x y) = _
  rw [h, g]
  show (if x.length + y.length ≤ 100000 then some (x ++ y) else none) = _
  rw [if_pos hl]
theorem Paired.snd {α β : Type} {Q : β → Prop} : ∀ {xs : List α} {ys : List β}, Paired (fun _ y => Q y) xs ys → ys.length = xs.length ∧ ∀ y ∈ ys, Q y
  | _, _, .nil => ⟨rfl, by simp⟩
  | _, _, .cons h t => by
    obtain ⟨a, b⟩ := Paired.snd t
    refine ⟨by rw [List.length_cons, List.length_cons, a], fun y hy => ?_⟩
    rcases List.mem_cons.mp hy with rfl | z
    · exact h
    · exact b y z
theorem spoilt_clocks_ok (ns : List Int) {at_ : Int} {cs : List Ck} (h : 0 ≤ at_) (hq : ∀ c ∈ cs, qK c) (hl : cs.length ≤ 900) : ∃ cs' : List Ck, m__law_spoilt_clocks [.scr ns, .int at_, .lst (cs.map encK)] = some (.lst (cs'.map encK)) ∧ cs'.length ≤ 2 * cs.length + 8 ∧ ∀ c ∈ cs', qK c := by
  suffices hh : ∃ es, m__law_spoilt_clocks [.scr ns, .int at_, .lst (cs.map encK)] = some (.lst es) ∧ TL encK qK (2 * cs.length + 8) es by
    obtain ⟨es, e1, xs, rfl, e2, e3⟩ := hh
    exact ⟨xs, e1, e2, e3⟩
  obtain ⟨kd, a1, a2⟩ := draw_ok ns (at_ := at_) (k := 0) (size := 17) h (by omega) (by omega)
  have t0 : TL encK qK cs.length (cs.map encK) := ⟨cs, rfl, Nat.le_refl _, hq⟩
  have en := eq_nilK hq
  unfold m__law_spoilt_clocks
  refine callM_ok ?_
  unfold b__law_spoilt_clocks
  show okR _ (mSeq _ _ [.fz (.scr ns), .fz (.int at_), .fz (.lst (cs.map encK)), .un, .un, .un, .un])
  refine ok_nx [.fz (.scr ns), .fz (.int at_), .fz (.lst (cs.map encK)), .fz (.int kd), .un, .un, .un] (by simp [a1]) ?_
  have first : ∀ (c : En → Option Bool) (r : En → Option Out) (E : En) (b : Bool), c E = some b → (mVarT 2 E = some (.lst (cs.map encK))) → (b = false → okR (TL encK qK (2 * cs.length + 8)) (r E)) → okR (TL encK qK (2 * cs.length + 8)) (mSeq (mIfS c (mRet (mVarT 2)) mNext) r E) := fun c r E b h1 h2 h3 => by
    show okR _ (((c E).bind _).bind _)
    rw [h1]
    cases b with
    | false => exact h3 rfl
    | true =>
      refine ⟨cs.map encK, ?_, t0.up (by omega)⟩
      show run (((mVarT 2 E).map Out.rt).bind _) = _
      rw [h2]
      rfl
  refine first _ _ _ (cs.isEmpty || decide (5 < kd)) ?_ rfl ?_
  · show (((eqB (.lst (cs.map encK)) (.lst [])).map D.bl).bind blOf).bind _ = _
    rw [en]
    cases cs.isEmpty <;> simp
  intro hb
  rw [Bool.or_eq_false_iff] at hb
  obtain ⟨hne, h5⟩ := hb
  have h5 := of_decide_eq_false h5
  have hpos : 0 < cs.length := by
    cases cs with
    | nil => cases hne
    | cons c cs => simp
  have csl : cs.length ≤ 100000 := by omega
  obtain ⟨j, b1, b2⟩ := draw_ok ns (at_ := at_) (k := 1) (size := (cs.length : Int)) h (by omega) (by omega)
  obtain ⟨mv, c1, c2⟩ := draw_ok ns (at_ := at_) (k := 3) (size := 5) h (by omega) (by omega)
  obtain ⟨j, rfl⟩ : ∃ n : Nat, j = n := ⟨j.toNat, by omega⟩
  have gc := List.getElem?_eq_getElem (l := cs) (i := j) (by omega)
  have gq := hq _ (List.mem_of_getElem? gc)
  generalize cs[j] = u at gc gq
  have gx := ix_map (f := encK) gc
  have k0 : ixD (.tup [.str u.1, .int u.2]) (.int 0) = some (.str u.1) := rfl
  have k1 : ixD (.tup [.str u.1, .int u.2]) (.int 1) = some (.int u.2) := rfl
  obtain ⟨w, w1, w2⟩ := bad_name_ok ns h
  refine ok_nx [.fz (.scr ns), .fz (.int at_), .fz (.lst (cs.map encK)), .fz (.int kd), .fz (.int j), .un, .un] (by simp [b1, csl]) ?_
  refine ok_nx [.fz (.scr ns), .fz (.int at_), .fz (.lst (cs.map encK)), .fz (.int kd), .fz (.int j), .fz (.int (1 + mv)), .un] (by simp [-addD, addI, c1]) ?_
  have hln := t0.len
  have tcut := fun l h => t0.cut l h
  have lcut := fun l h => (t0.cut l h).len
  generalize hL : cs.map encK = L at *
  refine ok_if (decide (kd = 0)) (by simp [-eqD, eqII]) (fun _ => ?_) fun _ => ?_
  · refine ⟨_, cat_at (x := cutD L none (some j) ++ [encK (w, u.2)]) (y := cutD L (some ((j : Int) + 1)) none) (cat_at (x := cutD L none (some j)) (y := [encK (w, u.2)]) rfl ?_ ?_) rfl ?_, (((tcut _ _).cat (TL.one (x := (w, u.2)) w2)).cat (tcut _ _)).up (by omega)⟩
    · simp [-ixD, w1, gx, k1, encK]
    · have := lcut none (some (j : Int)); simp; omega
    · have := lcut none (some (j : Int)); have := lcut (some ((j : Int) + 1)) none; simp; omega
  refine ok_if (decide (kd = 1)) (by simp [-eqD, eqII]) (fun _ => ?_) fun _ => ?_
  · refine ⟨_, cat_at2 (x := L) (y := [encK (u.1, 1 + mv)]) rfl ?_ ?_, (t0.cat (TL.one (x := (u.1, 1 + mv)) gq)).up (by omega)⟩
    · simp [-ixD, gx, k0, encK]
    · simp; omega
  refine ok_if (decide (kd = 2)) (by simp [-eqD, eqII]) (fun _ => ?_) fun _ => ?_
  · refine ⟨_, cat_at (x := cutD L none (some j) ++ [encK (u.1, -(1 + mv))]) (y := cutD L (some ((j : Int) + 1)) none) (cat_at (x := cutD L none (some j)) (y := [encK (u.1, -(1 + mv))]) rfl ?_ ?_) rfl ?_, (((tcut _ _).cat (TL.one (x := (u.1, -(1 + mv))) gq)).cat (tcut _ _)).up (by omega)⟩
    · simp [-ixD, gx, k0, encK]
    · have := lcut none (some (j : Int)); simp; omega
    · have := lcut none (some (j : Int)); have := lcut (some ((j : Int) + 1)) none; simp; omega
  refine ok_if (decide (kd = 3)) (by simp [-eqD, eqII]) (fun _ => ?_) fun _ => ?_
  · refine ⟨_, cat_at (x := cutD L none (some j) ++ [encK (u.1, 1000000 + (1 + mv))]) (y := cutD L (some ((j : Int) + 1)) none) (cat_at (x := cutD L none (some j)) (y := [encK (u.1, 1000000 + (1 + mv))]) rfl ?_ ?_) rfl ?_, (((tcut _ _).cat (TL.one (x := (u.1, 1000000 + (1 + mv))) gq)).cat (tcut _ _)).up (by omega)⟩
    · simp [-ixD, gx, k0, encK]
    · have := lcut none (some (j : Int)); simp; omega
    · have := lcut none (some (j : Int)); have := lcut (some ((j : Int) + 1)) none; simp; omega
  refine ok_if (decide (kd = 4)) (by simp [-eqD, eqII]) (fun _ => ?_) fun _ => ?_
  · exact ⟨[], rfl, TL.nil.up (by omega)⟩
  obtain ⟨ys, r1, r2⟩ := runComp_enc (mg := gM 6) (mt := mYes) (me := mTup (mCons (mBin addD (mC (.str "t")) (mUn strI (mVarT 6))) (mCons (mVar 5) mNil))) (E0 := [.fz (.scr ns), .fz (.int at_), .fz (.lst L), .fz (.int kd), .fz (.int j), .fz (.int (1 + mv)), .un]) (fun (i : Nat) => D.int (0 + (i : Int))) encK (fun _ c => qK c) (List.range (7 - (L.length : Int)).toNat) fun i hi => by
    have hi := List.mem_range.mp hi
    obtain ⟨z, z1, z2⟩ := tn_ok i (by omega)
    refine ⟨[.fz (.scr ns), .fz (.int at_), .fz (.lst L), .fz (.int kd), .fz (.int j), .fz (.int (1 + mv)), .fz (.int i)], (z, 1 + mv), by rw [Int.zero_add]; rfl, rfl, ?_, z2⟩
    simp [-strI, -addD, encK]
    cases hs : strI (.int (i : Int)) with
    | none => rw [hs] at z1; cases z1
    | some d =>
      rw [hs] at z1
      have z1 : addD (.str "t") d = some (.str z) := z1
      simp [-addD, z1]
  obtain ⟨yl, yq⟩ := Paired.snd r2
  rw [List.length_range] at yl
  have ty : TL encK qK 7 (ys.map encK) := ⟨ys, rfl, by omega, yq⟩
  refine ok_end (cat_at2 (x := L) (y := ys.map encK) rfl (mComp_at (ds := rangeD 0 (7 - (L.length : Int)).toNat) ?_ ?_ r1) ?_) ((t0.cat ty).up (by omega))
  · have q1 : L.length ≤ 100000 := by omega
    simp [q1]
    omega
  · rw [rangeD_len]; omega
  · rw [List.length_map]; omega
end Sx

set_option Elab.async false
set_option linter.all false
set_option maxRecDepth 100000
set_option maxHeartbeats 4000000
namespace Sx
open PySem L2
def qS (x : Spn) : Prop := okTx x.n ∧ okTx x.c ∧ ∀ p, x.p = some p → okTx p
theorem eq_nilS {xs : List Spn} (h : ∀ x ∈ xs, qS x) : eqB (.lst (xs.map encS)) (.lst []) = some xs.isEmpty := by
  have s1 := shaped_of (d := .lst (xs.map encS)) (by rw [okD]; exact okDs_map (okSp fun x hx => ⟨(h x hx).1.2, (h x hx).2.1.2, fun p hp => ((h x hx).2.2 p hp).2⟩)) (by
    rw [depD]
    have := depDs_map (f := encS) (n := 1) (xs := xs) fun c _ => dpS c
    omega)
  have s2 : SeqAt.shaped (D.lst []).py = true := by decide
  show (if SeqAt.shaped (D.lst (xs.map encS)).py = true ∧ SeqAt.shaped (D.lst []).py = true then some (PyData.eqv (D.lst (xs.map encS)).py (D.lst []).py) else none) = _
  rw [if_pos ⟨s1, s2⟩]
  cases xs <;> rfl
theorem and_at {a b : En → Option Bool} {E : En} {p q : Bool} (h : a E = some p) (g : b E = some q) : mAnd a b E = some (p && q) := by
  show (a E).bind _ = _
  rw [h]
  cases p
  · rfl
  · exact g
theorem or_at {a b : En → Option Bool} {E : En} {p q : Bool} (h : a E = some p) (g : b E = some q) : mOr a b E = some (p || q) := by
  show (a E).bind _ = _
  rw [h]
  cases p
  · exact g
  · rfl
theorem ok_ifS {T : List D → Prop} {c : En → Option Bool} {m r : En → Option Out} {E : En} (b : Bool) (h : c E = some b) (h1 : b = true → ∃ ds, m E = some (.rf ds) ∧ T ds) (h2 : b = false → okR T (r E)) : okR T (mSeq (mIfS c m mNext) r E) := by
  show okR T (((c E).bind _).bind _)
  rw [h]
  cases b with
  | true =>
    obtain ⟨ds, g1, g2⟩ := h1 rfl
    refine ⟨ds, ?_, g2⟩
    show run ((m E).bind _) = _
    rw [g1]
    rfl
  | false => exact h2 rfl
theorem ok_ifT {T : List D → Prop} {c : En → Option Bool} {m : En → Option D} {r : En → Option Out} {E : En} (b : Bool) (h : c E = some b) (h1 : b = true → ∃ ds, m E = some (.lst ds) ∧ T ds) (h2 : b = false → okR T (r E)) : okR T (mSeq (mIfS c (mRet m) mNext) r E) := by
  show okR T (((c E).bind _).bind _)
  rw [h]
  cases b with
  | true =>
    obtain ⟨ds, g1, g2⟩ := h1 rfl
    refine ⟨ds, ?_, g2⟩
    show run (((m E).map Out.rt).bind _) = _
    rw [g1]
    rfl
  | false => exact h2 rfl
theorem TL.two {α : Type} {f : α → D} {Q : α → Prop} {x y : α} (h : Q x) (g : Q y) : TL f Q 2 [f x, f y] := (TL.one h).cat (TL.one g)
theorem t1_ok : okTx "t1" := okTx_dec (by decide +kernel)
theorem t2_ok : okTx "t2" := okTx_dec (by decide +kernel)
theorem tt_ok : okTx "t" := okTx_dec (by decide +kernel)
theorem qS_of {n c : Str} {p : Option Str} {s e : Option Int} (h1 : okTx n) (h2 : okTx c) (h3 : ∀ q, p = some q → okTx q) : qS ⟨n, p, c, s, e⟩ := ⟨h1, h2, h3⟩
theorem bad_spans_ok (ns : List Int) {at_ : Int} {home : Str} {xs : List Spn} {spot : Nat} (h : 0 ≤ at_) (hh : okTx home) (hq : ∀ x ∈ xs, qS x) (hl : xs.length ≤ 900) (hsp : spot ≤ xs.length) : ∃ es, m__law_bad_spans [.scr ns, .int at_, .str home, .lst (xs.map encS), .int spot] = some (.lst es) ∧ TL encS qS 2 es := by
  obtain ⟨kd, a1, a2⟩ := draw_ok ns (at_ := at_) (k := 0) (size := 17) h (by omega) (by omega)
  obtain ⟨mv, c1, c2⟩ := draw_ok ns (at_ := at_) (k := 3) (size := 5) h (by omega) (by omega)
  have en : neD (.lst (xs.map encS)) (.lst []) = some (.bl (!xs.isEmpty)) := by
    show (eqB _ _).map _ = _
    rw [eq_nilS hq]
    rfl
  obtain ⟨w, w1, w2⟩ := bad_name_ok ns h
  have nn : ∀ q : Str, none = some q → okTx q := fun q z => by cases z
  have xl : xs.length ≤ 100000 := by omega
  have i0 : ∀ (u : Spn), ixD (encS u) (.int 0) = some (.str u.n) := fun u => rfl
  unfold m__law_bad_spans
  refine callM_ok ?_
  unfold b__law_bad_spans
  show okR _ (mSeq _ _ [.fz (.scr ns), .fz (.int at_), .fz (.str home), .fz (.lst (xs.map encS)), .fz (.int spot), .un, .un, .un])
  refine ok_nx [.fz (.scr ns), .fz (.int at_), .fz (.str home), .fz (.lst (xs.map encS)), .fz (.int spot), .fz (.int kd), .un, .un] (by simp [a1]) ?_
  refine ok_nx [.fz (.scr ns), .fz (.int at_), .fz (.str home), .fz (.lst (xs.map encS)), .fz (.int spot), .fz (.int kd), .fz (.int (1 + mv)), .un] (by simp [-addD, addI, c1]) ?_
  refine ok_if (decide (kd = 8)) (by simp [-eqD, eqII]) (fun _ => ?_) fun _ => ?_
  · exact ⟨[encS ⟨w, none, home, some 1, some 2⟩], by simp [w1, encS, oS, oI], (TL.one (qS_of w2 hh nn)).up (by omega)⟩
  refine ok_if (decide (kd = 9) && !xs.isEmpty) (and_at (by simp [-eqD, eqII]) (by simp [-neD, en])) (fun hb => ?_) fun _ => ?_
  · have hne : 0 < xs.length := by
      cases xs with
      | nil => simp at hb
      | cons x xs => simp
    obtain ⟨j, d1, d2⟩ := draw_ok ns (at_ := at_) (k := 4) (size := (xs.length : Int)) h (by omega) (by omega)
    obtain ⟨j, rfl⟩ : ∃ n : Nat, j = n := ⟨j.toNat, by omega⟩
    have gu := List.getElem?_eq_getElem (l := xs) (i := j) (by omega)
    have uq := hq _ (List.mem_of_getElem? gu)
    generalize xs[j] = u at gu uq
    have gx := ix_map (f := encS) gu
    refine ⟨[encS ⟨u.n, none, home, some 1, some 2⟩], ?_, (TL.one (qS_of uq.1 hh nn)).up (by omega)⟩
    have e : encS ⟨u.n, none, home, some 1, some 2⟩ = .tup [.str u.n, .non, .str home, .int 1, .int 2] := rfl
    rw [e]
    simp [-ixD, xl, d1, gx, i0]
  refine ok_if (decide (kd = 9)) (by simp [-eqD, eqII]) (fun _ => ?_) fun _ => ?_
  · exact ⟨[encS ⟨"t1", none, home, some 1, some 2⟩, encS ⟨"t1", none, home, some 1, some 2⟩], by simp [encS, oS, oI], TL.two (qS_of t1_ok hh nn) (qS_of t1_ok hh nn)⟩
  refine ok_if (decide (kd = 10) && decide (spot < xs.length)) (and_at (by simp [-eqD, eqII]) (by simp [xl])) (fun hb => ?_) fun _ => ?_
  · rw [Bool.and_eq_true] at hb
    have hsl := of_decide_eq_true hb.2
    obtain ⟨j, d1, d2⟩ := draw_ok ns (at_ := at_) (k := 4) (size := (xs.length : Int) - (spot : Int)) h (by omega) (by omega)
    obtain ⟨j, rfl⟩ : ∃ n : Nat, j = n := ⟨j.toNat, by omega⟩
    have gu := List.getElem?_eq_getElem (l := xs) (i := spot + j) (by omega)
    have uq := hq _ (List.mem_of_getElem? gu)
    generalize xs[spot + j] = u at gu uq
    have gx := ix_map (f := encS) gu
    rw [Int.natCast_add] at gx
    refine ⟨[encS ⟨"t1", some u.n, home, some 1, some 2⟩], ?_, (TL.one (qS_of t1_ok hh fun q z => by cases z; exact uq.1)).up (by omega)⟩
    have e : encS ⟨"t1", some u.n, home, some 1, some 2⟩ = .tup [.str "t1", .str u.n, .str home, .int 1, .int 2] := rfl
    rw [e]
    simp [-ixD, -addD, addI, xl, d1, gx, i0]
  refine ok_if (decide (kd = 10)) (by simp [-eqD, eqII]) (fun _ => ?_) fun _ => ?_
  · exact ⟨[encS ⟨"t1", some "t1", home, some 1, some 2⟩], by simp [encS, oS, oI], (TL.one (qS_of t1_ok hh fun q z => by cases z; exact t1_ok)).up (by omega)⟩
  refine ok_if (decide (kd = 11)) (by simp [-eqD, eqII]) (fun _ => ?_) fun _ => ?_
  · exact ⟨[encS ⟨"t1", some "t", home, some 1, some 2⟩], by simp [encS, oS, oI], (TL.one (qS_of t1_ok hh fun q z => by cases z; exact tt_ok)).up (by omega)⟩
  refine ok_if (decide (kd = 12)) (by simp [-eqD, eqII]) (fun _ => ?_) fun _ => ?_
  · exact ⟨[encS ⟨"t1", none, "t", some 1, some 2⟩], by simp [encS, oS, oI], (TL.one (qS_of t1_ok tt_ok nn)).up (by omega)⟩
  refine ok_if (decide (kd = 13)) (by simp [-eqD, eqII]) (fun _ => ?_) fun _ => ?_
  · exact ⟨[encS ⟨"t1", none, home, some (1 + (1 + mv)), some 1⟩], by simp [-addD, addI, encS, oS, oI], (TL.one (qS_of t1_ok hh nn)).up (by omega)⟩
  refine ok_if (decide (kd = 14)) (by simp [-eqD, eqII]) (fun _ => ?_) fun _ => ?_
  · refine ⟨cutD [encS ⟨"t1", none, home, none, some 1⟩, encS ⟨"t1", none, home, some 1, none⟩] (some ((1 + mv) / 3)) (some ((1 + mv) / 3 + 1)), ?_, (TL.two (qS_of t1_ok hh nn) (qS_of t1_ok hh nn)).cut _ _⟩
    simp [-addD, addI, encS, oS, oI, divOk_c]
  refine ok_ifS (decide (kd = 15)) (by simp [-eqD, eqII]) (fun _ => ?_) fun _ => ?_
  · obtain ⟨r, d1, d2⟩ := draw_ok ns (at_ := at_) (k := 5) (size := 3) h (by omega) (by omega)
    obtain ⟨r, rfl⟩ : ∃ n : Nat, r = n := ⟨r.toNat, by omega⟩
    have gp := List.getElem?_eq_getElem (l := [((10 : Int) - (1 + mv), (20 : Int)), (10, 20 + (1 + mv)), (10 - (1 + mv), 20 + (1 + mv))]) (i := r) (by simp; omega)
    obtain ⟨p, gp⟩ : ∃ p, [((10 : Int) - (1 + mv), (20 : Int)), (10, 20 + (1 + mv)), (10 - (1 + mv), 20 + (1 + mv))][r]? = some p := ⟨_, gp⟩
    have gx := ix_map (f := encP) gp
    have p0 : ixD (encP p) (.int 0) = some (.int p.1) := rfl
    have p1 : ixD (encP p) (.int 1) = some (.int p.2) := rfl
    refine ⟨[encS ⟨"t1", none, home, some 10, some 20⟩, encS ⟨"t2", some "t1", home, some p.1, some p.2⟩], ?_, TL.two (qS_of t1_ok hh nn) (qS_of t2_ok hh fun q z => by cases z; exact t1_ok)⟩
    rw [seq_nx [.fz (.scr ns), .fz (.int at_), .fz (.str home), .fz (.lst (xs.map encS)), .fz (.int spot), .fz (.int kd), .fz (.int (1 + mv)), .fz (encP p)] (by
      have gx : ixD (.lst [.tup [.int (10 - (1 + mv)), .int 20], .tup [.int 10, .int (20 + (1 + mv))], .tup [.int (10 - (1 + mv)), .int (20 + (1 + mv))]]) (.int (r : Int)) = some (encP p) := gx
      simp [-ixD, -addD, addI, d1, gx])]
    generalize encP p = pp at p0 p1
    simp [-ixD, p0, p1, encS, oS, oI]
  exact ok_end (ds := []) rfl (TL.nil.up (by omega))
end Sx

set_option Elab.async false
set_option linter.all false
set_option maxRecDepth 100000
set_option maxHeartbeats 4000000
namespace Sx
open PySem L2
theorem moved_ok (ns : List Int) {at_ : Int} {xs : List Spn} (h : 0 ≤ at_) (hq : ∀ x ∈ xs, qS x) (hl : xs.length ≤ 900) : ∃ es, m__law_moved [.scr ns, .int at_, .lst (xs.map encS)] = some (.lst es) ∧ TL encS qS (2 * xs.length + 1) es := by
  obtain ⟨kd, a1, a2⟩ := draw_ok ns (at_ := at_) (k := 0) (size := 17) h (by omega) (by omega)
  have xl : xs.length ≤ 100000 := by omega
  have t0 : TL encS qS xs.length (xs.map encS) := ⟨xs, rfl, Nat.le_refl _, hq⟩
  have en : eqD (.lst (xs.map encS)) (.lst []) = some (.bl xs.isEmpty) := by
    show (eqB _ _).map _ = _
    rw [eq_nilS hq]
    rfl
  have neII : neD (.int kd) (.int 16) = some (.bl (!decide (kd = 16))) := rfl
  unfold m__law_moved
  refine callM_ok ?_
  unfold b__law_moved
  show okR _ (mSeq _ _ [.fz (.scr ns), .fz (.int at_), .fz (.lst (xs.map encS)), .un, .un, .un, .un, .un])
  refine ok_ifT (xs.isEmpty || !decide (kd = 16)) (or_at (by simp [-eqD, en]) (by simp [-neD, a1, neII])) (fun _ => ⟨xs.map encS, rfl, t0.up (by omega)⟩) fun hb => ?_
  rw [Bool.or_eq_false_iff] at hb
  have hne : 0 < xs.length := by
    cases xs with
    | nil => simp at hb
    | cons x xs => simp
  obtain ⟨j, d1, d2⟩ := draw_ok ns (at_ := at_) (k := 4) (size := (xs.length : Int)) h (by omega) (by omega)
  obtain ⟨mv, c1, c2⟩ := draw_ok ns (at_ := at_) (k := 3) (size := 5) h (by omega) (by omega)
  obtain ⟨r, e1, e2⟩ := draw_ok ns (at_ := at_) (k := 5) (size := 4) h (by omega) (by omega)
  obtain ⟨j, rfl⟩ : ∃ n : Nat, j = n := ⟨j.toNat, by omega⟩
  obtain ⟨r, rfl⟩ : ∃ n : Nat, r = n := ⟨r.toNat, by omega⟩
  have gu := List.getElem?_eq_getElem (l := xs) (i := j) (by omega)
  have uq := hq _ (List.mem_of_getElem? gu)
  generalize xs[j] = u at gu uq
  have gx := ix_map (f := encS) gu
  obtain ⟨p, gp⟩ : ∃ p, [(-((1 : Int) + mv), (0 : Int)), (0, 1 + mv), (1 + mv, 1 + mv), (-(1 + mv), -(1 + mv))][r]? = some p := ⟨_, List.getElem?_eq_getElem (by simp; omega)⟩
  have gy : ixD (.lst [.tup [.int (-(1 + mv)), .int 0], .tup [.int 0, .int (1 + mv)], .tup [.int (1 + mv), .int (1 + mv)], .tup [.int (-(1 + mv)), .int (-(1 + mv))]]) (.int (r : Int)) = some (encP p) := ix_map (f := encP) gp
  have p0 : ixD (encP p) (.int 0) = some (.int p.1) := rfl
  have p1 : ixD (encP p) (.int 1) = some (.int p.2) := rfl
  have u0 : ixD (encS u) (.int 0) = some (.str u.n) := rfl
  have u1 : ixD (encS u) (.int 1) = some (oS u.p) := rfl
  have u2 : ixD (encS u) (.int 2) = some (.str u.c) := rfl
  have u3 : ixD (encS u) (.int 3) = some (oI u.s) := rfl
  have u4 : ixD (encS u) (.int 4) = some (oI u.e) := rfl
  generalize encP p = pp at gy p0 p1
  have hln := t0.len
  have tcut := fun l h => t0.cut l h
  have lcut := fun l h => (t0.cut l h).len
  generalize hL : xs.map encS = L at *
  refine ok_nx [.fz (.scr ns), .fz (.int at_), .fz (.lst L), .fz (.int j), .un, .un, .un, .un] (by subst hL; simp [d1, xl]) ?_
  refine ok_nx [.fz (.scr ns), .fz (.int at_), .fz (.lst L), .fz (.int j), .fz (encS u), .un, .un, .un] (by simp [-ixD, gx]) ?_
  refine ok_nx [.fz (.scr ns), .fz (.int at_), .fz (.lst L), .fz (.int j), .fz (encS u), .fz (.int (1 + mv)), .un, .un] (by simp [-addD, addI, c1]) ?_
  refine ok_nx [.fz (.scr ns), .fz (.int at_), .fz (.lst L), .fz (.int j), .fz (encS u), .fz (.int (1 + mv)), .fz pp, .un] (by simp [-ixD, e1, gy]) ?_
  refine ok_nx [.fz (.scr ns), .fz (.int at_), .fz (.lst L), .fz (.int j), .fz (encS u), .fz (.int (1 + mv)), .fz pp, .fz (encS ⟨u.n, u.p, u.c, some (1 + mv), some (1 + mv)⟩)] (by
    have e : encS ⟨u.n, u.p, u.c, some (1 + mv), some (1 + mv)⟩ = .tup [.str u.n, oS u.p, .str u.c, .int (1 + mv), .int (1 + mv)] := rfl
    rw [e]
    simp [-ixD, u0, u1, u2]) ?_
  have last : ∀ (v : Spn), qS v → okR (TL encS qS (2 * xs.length + 1)) (mRetF (fun E => ((mList (fun E => ((mList (fun E => (((mVarT 2) E).bind lstOf).bind fun ds => ((fun _ => some none) E).bind fun l => ((fun E => ((mVarT 3) E).bind inOf) E).map fun h => cutD ds l h)) E).bind fun x => ((mList (mLst (mCons (mVar 7) mNil))) E).bind fun y => catD x y)) E).bind fun x => ((mList (fun E => (((mVarT 2) E).bind lstOf).bind fun ds => ((fun E => ((mBin addD (mVarT 3) (mC (.int 1))) E).bind inOf) E).bind fun l => ((fun _ => some none) E).map fun h => cutD ds l h)) E).bind fun y => catD x y)
      [.fz (.scr ns), .fz (.int at_), .fz (.lst L), .fz (.int j), .fz (encS u), .fz (.int (1 + mv)), .fz pp, .fz (encS v)]) := fun v hv => by
    refine ok_end (cat_at (x := cutD L none (some j) ++ [encS v]) (y := cutD L (some ((j : Int) + 1)) none) (cat_at (x := cutD L none (some j)) (y := [encS v]) rfl rfl ?_) rfl ?_) ((((tcut _ _).cat (TL.one hv)).cat (tcut _ _)).up (by omega))
    · have := lcut none (some (j : Int)); simp; omega
    · have := lcut none (some (j : Int)); have := lcut (some ((j : Int) + 1)) none; simp; omega
  have neither : (u.s = none ∨ u.e = none) ∨ ∃ a b, u.s = some a ∧ u.e = some b := by
    cases hs : u.s with
    | none => exact .inl (.inl rfl)
    | some a =>
      cases he : u.e with
      | none => exact .inl (.inr rfl)
      | some b => exact .inr ⟨a, b, rfl, rfl⟩
  rcases neither with hn | ⟨a, b, hs, he⟩
  · refine ok_nx [.fz (.scr ns), .fz (.int at_), .fz (.lst L), .fz (.int j), .fz (encS u), .fz (.int (1 + mv)), .fz pp, .fz (encS ⟨u.n, u.p, u.c, some (1 + mv), some (1 + mv)⟩)] ?_ (last _ (qS_of uq.1 uq.2.1 uq.2.2))
    have hc : (mAnd (fun E => ((mBin ixD (mVarT 4) (mC (.int 3))) E).map (fun d => !isN d)) (fun E => ((mBin ixD (mVarT 4) (mC (.int 4))) E).map (fun d => !isN d))) [.fz (.scr ns), .fz (.int at_), .fz (.lst L), .fz (.int j), .fz (encS u), .fz (.int (1 + mv)), .fz pp, .fz (encS ⟨u.n, u.p, u.c, some (1 + mv), some (1 + mv)⟩)] = some false := by
      generalize encS ⟨u.n, u.p, u.c, some (1 + mv), some (1 + mv)⟩ = vv
      cases hs : u.s with
      | none => rw [hs] at u3; simp [-ixD, u3, oI]
      | some a =>
        have he : u.e = none := by
          rcases hn with z | z
          · rw [hs] at z; cases z
          · exact z
        rw [hs] at u3
        rw [he] at u4
        simp [-ixD, u3, u4, oI]
    show ((mAnd _ _ _).bind _) = _
    rw [hc]
    rfl
  · rw [hs] at u3
    rw [he] at u4
    refine ok_nx [.fz (.scr ns), .fz (.int at_), .fz (.lst L), .fz (.int j), .fz (encS u), .fz (.int (1 + mv)), .fz pp, .fz (encS ⟨u.n, u.p, u.c, some (a + p.1), some (b + p.2)⟩)] ?_ (last _ (qS_of uq.1 uq.2.1 uq.2.2))
    have e : encS ⟨u.n, u.p, u.c, some (a + p.1), some (b + p.2)⟩ = .tup [.str u.n, oS u.p, .str u.c, .int (a + p.1), .int (b + p.2)] := rfl
    rw [e]
    generalize encS ⟨u.n, u.p, u.c, some (1 + mv), some (1 + mv)⟩ = vv
    have o3 : oI (some a) = .int a := rfl
    have o4 : oI (some b) = .int b := rfl
    rw [o3] at u3
    rw [o4] at u4
    simp [-ixD, -addD, addI, u0, u1, u2, u3, u4, p0, p1]
theorem spoilt_ok (ns : List Int) {at_ : Int} {cs : List Ck} {xs : List Spn} {leap : Int} (h : 0 ≤ at_) (hk : ∀ c ∈ cs, qK c) (hkl : cs.length ≤ 400) (hq : ∀ x ∈ xs, qS x) (hl : xs.length ≤ 400) : ∃ (cs' : List Ck) (xs' : List Spn) (leap' : Int), m__law_spoilt [.scr ns, .int at_, shapeD cs xs leap] = some (shapeD cs' xs' leap') ∧ (∀ c ∈ cs', qK c) ∧ cs'.length ≤ 2 * cs.length + 8 ∧ (∀ x ∈ xs', qS x) ∧ xs'.length ≤ 4 * xs.length + 5 := by
  obtain ⟨kd, a1, a2⟩ := draw_ok ns (at_ := at_) (k := 0) (size := 17) h (by omega) (by omega)
  obtain ⟨sp, b1, b2⟩ := draw_ok ns (at_ := at_) (k := 2) (size := (xs.length : Int) + 1) h (by omega) (by omega)
  obtain ⟨mv, c1, c2⟩ := draw_ok ns (at_ := at_) (k := 3) (size := 5) h (by omega) (by omega)
  obtain ⟨sp, rfl⟩ : ∃ n : Nat, sp = n := ⟨sp.toNat, by omega⟩
  have xl : xs.length ≤ 100000 := by omega
  have kl : cs.length ≤ 100000 := by omega
  have t0 : TL encS qS xs.length (xs.map encS) := ⟨xs, rfl, Nat.le_refl _, hq⟩
  have j0 : ixD (shapeD cs xs leap) (.int 0) = some (.lst (cs.map encK)) := rfl
  have j1 : ixD (shapeD cs xs leap) (.int 1) = some (.lst (xs.map encS)) := rfl
  have j2 : ixD (shapeD cs xs leap) (.int 2) = some (.int leap) := rfl
  have lx : lenD (.lst (xs.map encS)) = some (.int xs.length) := by simp [xl]
  have lk : lenD (.lst (cs.map encK)) = some (.int cs.length) := by simp [kl]
  have en : neD (.lst (cs.map encK)) (.lst []) = some (.bl (!cs.isEmpty)) := by
    show (eqB _ _).map _ = _
    rw [eq_nilK hk]
    rfl
  have home : ∃ hm, okTx hm ∧ ∀ (s3 s4 s5 s6 s8 s9 : Sl), (mIfS (fun E => ((mBin neD (mBin ixD (mVarT 2) (mC (.int 0))) (mList (mLst mNil))) E).bind blOf) (mSet 7 (mBin ixD (mBin ixD (mBin ixD (mVarT 2) (mC (.int 0))) (mCall 4 m__law_draw (mCons (mVar 0) (mCons (mVar 1) (mCons (mC (.int 1)) (mCons (mUn lenD (mBin ixD (mVarT 2) (mC (.int 0)))) mNil)))))) (mC (.int 0)))) mNext) [.fz (.scr ns), .fz (.int at_), .fz (shapeD cs xs leap), s3, s4, s5, s6, .fz (.str "t"), s8, s9] = some (.nx [.fz (.scr ns), .fz (.int at_), .fz (shapeD cs xs leap), s3, s4, s5, s6, .fz (.str hm), s8, s9]) := by
    cases hne : cs.isEmpty with
    | true =>
      rw [hne] at en
      generalize shapeD cs xs leap = sd at *
      exact ⟨"t", tt_ok, fun s3 s4 s5 s6 s8 s9 => by simp [-ixD, -neD, j0, en]⟩
    | false =>
      rw [hne] at en
      have hpos : 0 < cs.length := by
        cases cs with
        | nil => cases hne
        | cons c cs => simp
      obtain ⟨j, d1, d2⟩ := draw_ok ns (at_ := at_) (k := 1) (size := (cs.length : Int)) h (by omega) (by omega)
      obtain ⟨j, rfl⟩ : ∃ n : Nat, j = n := ⟨j.toNat, by omega⟩
      have gc := List.getElem?_eq_getElem (l := cs) (i := j) (by omega)
      have gq := hk _ (List.mem_of_getElem? gc)
      generalize cs[j] = u at gc gq
      have gx := ix_map (f := encK) gc
      have k0 : ixD (encK u) (.int 0) = some (.str u.1) := rfl
      generalize shapeD cs xs leap = sd at *
      exact ⟨u.1, gq, fun s3 s4 s5 s6 s8 s9 => by simp [-ixD, -neD, -lenD, j0, en, lk, d1, gx, k0]⟩
  obtain ⟨hm, hmo, home⟩ := home
  obtain ⟨bad, e1, e2⟩ := bad_spans_ok ns (at_ := at_) (home := hm) (xs := xs) (spot := sp) h hmo hq (by omega) (by omega)
  have tcut := fun l h => t0.cut l h
  have lcut := fun l h => (t0.cut l h).len
  have tb := ((tcut none (some (sp : Int))).cat e2).cat (tcut (some (sp : Int)) none)
  obtain ⟨ys, y1, y2, y3⟩ := tb
  obtain ⟨mo, f1, zs, f2, f3, f4⟩ := moved_ok ns (at_ := at_) (xs := ys) h y3 (by omega)
  subst f2
  rw [← y1] at f1
  obtain ⟨cs', g1, g2, g3⟩ := spoilt_clocks_ok ns (at_ := at_) h hk (by omega)
  obtain ⟨leap', hleap⟩ : ∃ l : Int, ∀ (s4 s7 s8 s9 : Sl) (r : En → Option Out), mSeq (mIfS (fun E => ((mBin eqD (mVarT 3) (mC (.int 6))) E).bind blOf) (mSet 6 (mUn negD (mVarT 5))) mNext) (mSeq (mIfS (fun E => ((mBin eqD (mVarT 3) (mC (.int 7))) E).bind blOf) (mSet 6 (mBin addD (mC (.int 1000000)) (mVarT 5))) mNext) r) [.fz (.scr ns), .fz (.int at_), .fz (shapeD cs xs leap), .fz (.int kd), s4, .fz (.int (1 + mv)), .fz (.int leap), s7, s8, s9] = r [.fz (.scr ns), .fz (.int at_), .fz (shapeD cs xs leap), .fz (.int kd), s4, .fz (.int (1 + mv)), .fz (.int l), s7, s8, s9] := by
    generalize shapeD cs xs leap = sd
    by_cases q6 : kd = 6
    · refine ⟨-(1 + mv), fun s4 s7 s8 s9 r => ?_⟩
      rw [seq_nx [.fz (.scr ns), .fz (.int at_), .fz sd, .fz (.int kd), s4, .fz (.int (1 + mv)), .fz (.int (-(1 + mv))), s7, s8, s9] (by simp [-eqD, eqII, q6])]
      rw [seq_nx [.fz (.scr ns), .fz (.int at_), .fz sd, .fz (.int kd), s4, .fz (.int (1 + mv)), .fz (.int (-(1 + mv))), s7, s8, s9] (by simp [-eqD, eqII, q6])]
    · by_cases q7 : kd = 7
      · refine ⟨1000000 + (1 + mv), fun s4 s7 s8 s9 r => ?_⟩
        rw [seq_nx [.fz (.scr ns), .fz (.int at_), .fz sd, .fz (.int kd), s4, .fz (.int (1 + mv)), .fz (.int leap), s7, s8, s9] (by simp [-eqD, eqII, q6])]
        rw [seq_nx [.fz (.scr ns), .fz (.int at_), .fz sd, .fz (.int kd), s4, .fz (.int (1 + mv)), .fz (.int (1000000 + (1 + mv))), s7, s8, s9] (by simp [-eqD, -addD, addI, eqII, q7])]
      · refine ⟨leap, fun s4 s7 s8 s9 r => ?_⟩
        rw [seq_nx [.fz (.scr ns), .fz (.int at_), .fz sd, .fz (.int kd), s4, .fz (.int (1 + mv)), .fz (.int leap), s7, s8, s9] (by simp [-eqD, eqII, q6])]
        rw [seq_nx [.fz (.scr ns), .fz (.int at_), .fz sd, .fz (.int kd), s4, .fz (.int (1 + mv)), .fz (.int leap), s7, s8, s9] (by simp [-eqD, eqII, q7])]
  refine ⟨cs', zs, leap', ?_, g3, g2, f4, by omega⟩
  unfold m__law_spoilt callM b__law_spoilt
  show run (mSeq _ _ [.fz (.scr ns), .fz (.int at_), .fz (shapeD cs xs leap), .un, .un, .un, .un, .un, .un, .un]) = _
  have lnb := e2.len
  have hS : shapeD cs' zs leap' = .lst [.lst (cs'.map encK), .lst (zs.map encS), .int leap'] := rfl
  rw [hS]
  generalize shapeD cs xs leap = sd at *
  refine mat_nx [.fz (.scr ns), .fz (.int at_), .fz sd, .fz (.int kd), .un, .un, .un, .un, .un, .un] (by simp [a1]) ?_
  refine mat_nx [.fz (.scr ns), .fz (.int at_), .fz sd, .fz (.int kd), .fz (.int sp), .un, .un, .un, .un, .un] (by simp [-ixD, -lenD, -addD, addI, j1, lx, b1]) ?_
  refine mat_nx [.fz (.scr ns), .fz (.int at_), .fz sd, .fz (.int kd), .fz (.int sp), .fz (.int (1 + mv)), .un, .un, .un, .un] (by simp [-addD, addI, c1]) ?_
  refine mat_nx [.fz (.scr ns), .fz (.int at_), .fz sd, .fz (.int kd), .fz (.int sp), .fz (.int (1 + mv)), .fz (.int leap), .un, .un, .un] (by simp [-ixD, j2]) ?_
  rw [hleap]
  refine mat_nx [.fz (.scr ns), .fz (.int at_), .fz sd, .fz (.int kd), .fz (.int sp), .fz (.int (1 + mv)), .fz (.int leap'), .fz (.str "t"), .un, .un] rfl ?_
  refine mat_nx _ (home _ _ _ _ _ _) ?_
  refine mat_nx [.fz (.scr ns), .fz (.int at_), .fz sd, .fz (.int kd), .fz (.int sp), .fz (.int (1 + mv)), .fz (.int leap'), .fz (.str hm), .fz (.lst bad), .un] (by simp [-ixD, j1, e1]) ?_
  refine mat_nx [.fz (.scr ns), .fz (.int at_), .fz sd, .fz (.int kd), .fz (.int sp), .fz (.int (1 + mv)), .fz (.int leap'), .fz (.str hm), .fz (.lst bad), .fz (.lst (zs.map encS))] ?_ ?_
  · have l1 := lcut none (some (sp : Int))
    have l2 := lcut (some (sp : Int)) none
    have q1 : (cutD (xs.map encS) none (some (sp : Int))).length + bad.length ≤ 100000 := by omega
    have q2 : (cutD (xs.map encS) none (some (sp : Int)) ++ bad).length + (cutD (xs.map encS) (some (sp : Int)) none).length ≤ 100000 := by rw [List.length_append]; omega
    have q3 : cutD (xs.map encS) none (some (sp : Int)) ++ bad ++ cutD (xs.map encS) (some (sp : Int)) none = (cutD (xs.map encS) none (some (sp : Int)) ++ bad) ++ cutD (xs.map encS) (some (sp : Int)) none := rfl
    have w1 : catD (.lst (cutD (xs.map encS) none (some (sp : Int)))) (.lst bad) = some (cutD (xs.map encS) none (some (sp : Int)) ++ bad) := if_pos q1
    have w2 : catD (.lst (cutD (xs.map encS) none (some (sp : Int)) ++ bad)) (.lst (cutD (xs.map encS) (some (sp : Int)) none)) = some (cutD (xs.map encS) none (some (sp : Int)) ++ bad ++ cutD (xs.map encS) (some (sp : Int)) none) := if_pos q2
    obtain ⟨A, hA⟩ : ∃ A, cutD (xs.map encS) none (some (sp : Int)) = A := ⟨_, rfl⟩
    obtain ⟨B, hB⟩ : ∃ B, cutD (xs.map encS) (some (sp : Int)) none = B := ⟨_, rfl⟩
    rw [hA] at w1 w2 f1
    rw [hB] at w2 f1
    obtain ⟨A', hA'⟩ : ∃ x, A ++ bad = x := ⟨_, rfl⟩
    rw [hA'] at w1 w2 f1
    obtain ⟨C, hC⟩ : ∃ x, A' ++ B = x := ⟨_, rfl⟩
    rw [hC] at w2 f1
    simp [-ixD, -catD, j1, hA, hB, w1, w2, f1]
  · simp [-ixD, j0, g1]
    rfl
end Sx

set_option Elab.async false
set_option linter.all false
set_option maxRecDepth 100000
set_option maxHeartbeats 4000000
namespace Sx
open PySem L2
theorem name_okT {z : Str} (h : isName z = true) : okTx z := by
  unfold isName at h
  simp only [Bool.and_eq_true] at h
  obtain ⟨h1, h2⟩ := h
  have h1 : 1 ≤ (cl z).length ∧ (cl z).length ≤ 12 := of_decide_eq_true h1
  have ha : (cl z).all isAn = true := by
    revert h2
    cases (cl z).all isAn with
    | true => exact fun _ => rfl
    | false => simp
  refine ⟨by rw [len_cl]; omega, ?_⟩
  unfold PyData.strOk
  rw [Array.all_eq_true]
  intro i hi
  have hm : z.cps[i] ∈ cl z := Array.mem_toList_iff.mpr (Array.getElem_mem hi)
  have := List.all_eq_true.mp ha _ hm
  unfold isAn isLet isDig at this
  simp at this
  exact decide_eq_true (by omega)
theorem ixI {L : List Int} {i : Int} (h : 0 ≤ i) (hl : i < L.length) : ∃ v, ixD (.lst (L.map .int)) (.int i) = some (.int v) ∧ v ∈ L := by
  obtain ⟨n, rfl⟩ : ∃ n : Nat, i = n := ⟨i.toNat, by omega⟩
  have g := List.getElem?_eq_getElem (l := L) (i := n) (by omega)
  exact ⟨_, ix_map (f := D.int) g, List.mem_of_getElem? g⟩
theorem good_qK {cs : List Ck} (h : goodK cs = true) : ∀ c ∈ cs, qK c := fun c hc => by
  unfold goodK at h
  simp only [Bool.and_eq_true] at h
  have := List.all_eq_true.mp h.2.1 c hc
  unfold ckOk at this
  rw [Bool.and_eq_true] at this
  exact name_okT this.1
theorem good_qS {cs : List Ck} {xs : List Spn} (hk : ∀ c ∈ cs, qK c) (h : goodS (nmK cs) xs = true) : ∀ x ∈ xs, qS x := fun x hx => by
  have hn : ∀ y ∈ xs, okTx y.n := fun y hy => by
    obtain ⟨i, hi⟩ := List.getElem?_of_mem hy
    exact name_okT (goodS_at h hi).nm
  obtain ⟨i, hi⟩ := List.getElem?_of_mem hx
  have o := goodS_at h hi
  refine ⟨hn x hx, ?_, fun p hp => ?_⟩
  · obtain ⟨c, hc, e⟩ := List.mem_map.mp o.clk
    rw [← e]
    exact hk c hc
  · obtain ⟨u, hu, e⟩ := List.mem_map.mp (o.par p hp)
    rw [← e]
    exact hn u (List.mem_of_mem_take hu)
theorem q_shortK {cs : List Ck} (h : ∀ c ∈ cs, qK c) (hl : cs.length ≤ 1000) : shortK cs := ⟨hl, fun c hc => by have := (h c hc).1; omega⟩
theorem q_shortS {xs : List Spn} (h : ∀ c ∈ xs, qS c) (hl : xs.length ≤ 1000) : shortS xs := ⟨hl, fun c hc => by have := (h c hc).1.1; omega⟩
theorem q_txtK {cs : List Ck} (h : ∀ c ∈ cs, qK c) : txtK cs := fun c hc => (h c hc).2
theorem q_txtS {xs : List Spn} (h : ∀ c ∈ xs, qS c) : txtS xs := fun x hx => ⟨(h x hx).1.2, (h x hx).2.1.2, fun p hp => ((h x hx).2.2 p hp).2⟩
def eL (ns : List Int) (s1 s2 s3 s4 s5 s6 s7 s8 s9 : Sl) (sd : D) (s11 : Sl) : En := [.fz (.scr ns), s1, s2, s3, s4, s5, s6, s7, s8, s9, .fz sd, s11]
theorem law_true : ∀ ns : List Int, ns.length ≤ 63 → m_law [.scr ns] = some (.bl true) := fun ns _ => by
  obtain ⟨la, a1, a2⟩ := draw_ok ns (at_ := 0) (k := 0) (size := 16) (by omega) (by omega) (by omega)
  obtain ⟨c0, b1, b2⟩ := draw_ok ns (at_ := 1) (k := 0) (size := 4) (by omega) (by omega) (by omega)
  obtain ⟨m0, c1, c2⟩ := draw_ok ns (at_ := 1) (k := 1) (size := 9) (by omega) (by omega) (by omega)
  obtain ⟨cn, mn, cm1, cm2, big⟩ : ∃ cn mn : Int, (1 ≤ cn ∧ cn ≤ 6) ∧ (0 ≤ mn ∧ mn ≤ 20) ∧ (mIfS (fun E => ((mVarT 1) E).bind truD) (mSeq (mSet 2 (mBin ixD (mList (mLst (mCons (mC (.int 6)) (mCons (mBin addD (mC (.int 1)) (mCall 4 m__law_draw (mCons (mVar 0) (mCons (mC (.int 1)) (mCons (mC (.int 0)) (mCons (mC (.int 6)) mNil)))))) mNil)))) (mCall 4 m__law_draw (mCons (mVar 0) (mCons (mC (.int 1)) (mCons (mC (.int 2)) (mCons (mC (.int 2)) mNil)))))))
      (mSet 3 (mBin ixD (mList (mLst (mCons (mC (.int 20)) (mCons (mCall 4 m__law_draw (mCons (mVar 0) (mCons (mC (.int 1)) (mCons (mC (.int 1)) (mCons (mC (.int 21)) mNil))))) mNil)))) (mCall 4 m__law_draw (mCons (mVar 0) (mCons (mC (.int 1)) (mCons (mC (.int 3)) (mCons (mC (.int 2)) mNil)))))))) mNext) [.fz (.scr ns), .fz (.bl (decide (la = 0))), .fz (.int (1 + c0)), .fz (.int m0), .un, .un, .un, .un, .un, .un, .un, .un] = some (.nx [.fz (.scr ns), .fz (.bl (decide (la = 0))), .fz (.int cn), .fz (.int mn), .un, .un, .un, .un, .un, .un, .un, .un]) := by
    by_cases q : la = 0
    · obtain ⟨r6, d1, d2⟩ := draw_ok ns (at_ := 1) (k := 0) (size := 6) (by omega) (by omega) (by omega)
      obtain ⟨r2, e1, e2⟩ := draw_ok ns (at_ := 1) (k := 2) (size := 2) (by omega) (by omega) (by omega)
      obtain ⟨r21, f1, f2⟩ := draw_ok ns (at_ := 1) (k := 1) (size := 21) (by omega) (by omega) (by omega)
      obtain ⟨r3, g1, g2⟩ := draw_ok ns (at_ := 1) (k := 3) (size := 2) (by omega) (by omega) (by omega)
      obtain ⟨cn, h1, h2⟩ := ixI (L := [6, 1 + r6]) (i := r2) (by omega) (by simp; omega)
      obtain ⟨mn, i1, i2⟩ := ixI (L := [20, r21]) (i := r3) (by omega) (by simp; omega)
      have h1 : ixD (.lst [.int 6, .int (1 + r6)]) (.int r2) = some (.int cn) := h1
      have i1 : ixD (.lst [.int 20, .int r21]) (.int r3) = some (.int mn) := i1
      refine ⟨cn, mn, ?_, ?_, ?_⟩
      · simp at h2
        omega
      · simp at i2
        omega
      · simp [-ixD, -addD, addI, q, d1, e1, f1, g1, h1, i1]
    · refine ⟨1 + c0, m0, by omega, by omega, ?_⟩
      simp [q]
  obtain ⟨cs, sf, k1, k2, k3⟩ := law_clocks_ok ns (at_ := 2) (count := cn) (by omega) cm1
  have k0 : ixD (.tup [.lst (cs.map encK), .lst (sf.map .int)]) (.int 0) = some (.lst (cs.map encK)) := rfl
  obtain ⟨r4, d1, d2⟩ := draw_ok ns (at_ := 1) (k := 4) (size := 4) (by omega) (by omega) (by omega)
  obtain ⟨at4, e1, e2⟩ := ixI (L := [2, 4]) (i := if r4 < 1 then r4 else 1) (by split <;> omega) (by simp; split <;> omega)
  have e1 : ixD (.lst [.int 2, .int 4]) (.int (if r4 < 1 then r4 else 1)) = some (.int at4) := e1
  have e3 : minD (.int 1) (.int r4) = some (.int (if r4 < 1 then r4 else 1)) := rfl
  have e4 : 0 ≤ at4 := by simp at e2; omega
  obtain ⟨zs, n1, n2, n3, n4⟩ := law_more_ok ns (at_ := at4) (count := mn) e4 cm2
  obtain ⟨rs, f1, f2⟩ := draw_ok ns (at_ := 25) (k := 0) (size := 3) (by omega) (by omega) (by omega)
  obtain ⟨sc, g1, g2⟩ := ixI (L := [6, 100, 500000]) (i := rs) (by omega) (by simp; omega)
  have g1 : ixD (.lst [.int 6, .int 100, .int 500000]) (.int rs) = some (.int sc) := g1
  have g3 : 0 < sc ∧ sc ≤ 1000000 := by simp at g2; omega
  obtain ⟨rb, h1, h2⟩ := draw_ok ns (at_ := 25) (k := 1) (size := 4) (by omega) (by omega) (by omega)
  obtain ⟨ba, i1, i2⟩ := ixI (L := [0, 0, 10000000000, -10000000000]) (i := rb) (by omega) (by simp; omega)
  have i1 : ixD (.lst [.int 0, .int 0, .int 10000000000, .int (-10000000000)]) (.int rb) = some (.int ba) := i1
  obtain ⟨xs, s1, s2, s3⟩ := law_spans_ok ns (at_ := 5) (sc := sc) (base := ba) (zs := zs) (cs := cs) (by omega) g3 (by omega) n3 n4 (by omega)
  obtain ⟨r6, j1, j2⟩ := draw_ok ns (at_ := 25) (k := 3) (size := 6) (by omega) (by omega) (by omega)
  obtain ⟨r7, l1, l2⟩ := draw_ok ns (at_ := 25) (k := 3) (size := 1000001) (by omega) (by omega) (by omega)
  obtain ⟨r8, o1, o2⟩ := draw_ok ns (at_ := 25) (k := 2) (size := 4) (by omega) (by omega) (by omega)
  obtain ⟨leap, p1, p2⟩ := ixI (L := [0, r6, r7, 1000000]) (i := r8) (by omega) (by simp; omega)
  have p1 : ixD (.lst [.int 0, .int r6, .int r7, .int 1000000]) (.int r8) = some (.int leap) := p1
  have p3 : 0 ≤ leap ∧ leap ≤ 1000000 := by simp at p2; omega
  have gd : goodAll cs xs leap = true := by
    unfold goodAll
    rw [k3, decide_eq_true p3, s2]
    rfl
  have hk := good_qK k3
  have hs := good_qS hk s2
  have mok := made_ok (q_shortK hk (by omega)) (q_shortS hs (by omega)) (q_txtK hk) (q_txtS hs) gd
  obtain ⟨r9, t1, t2⟩ := draw_ok ns (at_ := 26) (k := 0) (size := 4) (by omega) (by omega) (by omega)
  obtain ⟨tn, u1, u2⟩ := ixI (L := [0, 1, 1, 2]) (i := r9) (by omega) (by simp; omega)
  have u1 : ixD (.lst [.int 0, .int 1, .int 1, .int 2]) (.int r9) = some (.int tn) := u1
  have u3 : 0 ≤ tn ∧ tn ≤ 2 := by simp at u2; omega
  unfold m_law callM b_law
  show run (mSeq _ _ [.fz (.scr ns), .un, .un, .un, .un, .un, .un, .un, .un, .un, .un, .un]) = _
  refine mat_nx [.fz (.scr ns), .fz (.bl (decide (la = 0))), .un, .un, .un, .un, .un, .un, .un, .un, .un, .un] (by simp [-eqD, eqII, a1]) ?_
  refine mat_nx [.fz (.scr ns), .fz (.bl (decide (la = 0))), .fz (.int (1 + c0)), .un, .un, .un, .un, .un, .un, .un, .un, .un] (by simp [-addD, addI, b1]) ?_
  refine mat_nx [.fz (.scr ns), .fz (.bl (decide (la = 0))), .fz (.int (1 + c0)), .fz (.int m0), .un, .un, .un, .un, .un, .un, .un, .un] (by simp [c1]) ?_
  refine mat_nx _ big ?_
  refine mat_nx [.fz (.scr ns), .fz (.bl (decide (la = 0))), .fz (.int cn), .fz (.int mn), .fz (.lst (cs.map encK)), .un, .un, .un, .un, .un, .un, .un] (by simp [-ixD, k1, k0]) ?_
  refine mat_nx [.fz (.scr ns), .fz (.bl (decide (la = 0))), .fz (.int cn), .fz (.int mn), .fz (.lst (cs.map encK)), .fz (.lst (zs.map .str)), .un, .un, .un, .un, .un, .un] (by simp [-ixD, -minD, d1, e1, e3, n1]) ?_
  refine mat_nx [.fz (.scr ns), .fz (.bl (decide (la = 0))), .fz (.int cn), .fz (.int mn), .fz (.lst (cs.map encK)), .fz (.lst (zs.map .str)), .fz (.int sc), .un, .un, .un, .un, .un] (by simp [-ixD, f1, g1]) ?_
  refine mat_nx [.fz (.scr ns), .fz (.bl (decide (la = 0))), .fz (.int cn), .fz (.int mn), .fz (.lst (cs.map encK)), .fz (.lst (zs.map .str)), .fz (.int sc), .fz (.int ba), .un, .un, .un, .un] (by simp [-ixD, h1, i1, powOk_c]) ?_
  refine mat_nx [.fz (.scr ns), .fz (.bl (decide (la = 0))), .fz (.int cn), .fz (.int mn), .fz (.lst (cs.map encK)), .fz (.lst (zs.map .str)), .fz (.int sc), .fz (.int ba), .fz (.lst (xs.map encS)), .un, .un, .un] (by simp [s1]) ?_
  refine mat_nx [.fz (.scr ns), .fz (.bl (decide (la = 0))), .fz (.int cn), .fz (.int mn), .fz (.lst (cs.map encK)), .fz (.lst (zs.map .str)), .fz (.int sc), .fz (.int ba), .fz (.lst (xs.map encS)), .fz (.int leap), .un, .un] (by simp [-ixD, j1, l1, o1, p1]) ?_
  refine mat_nx (eL ns (.fz (.bl (decide (la = 0)))) (.fz (.int cn)) (.fz (.int mn)) (.fz (.lst (cs.map encK))) (.fz (.lst (zs.map .str))) (.fz (.int sc)) (.fz (.int ba)) (.fz (.lst (xs.map encS))) (.fz (.int leap)) (shapeD cs xs leap) .un) rfl ?_
  generalize (Sl.fz (.bl (decide (la = 0)))) = v1
  generalize (Sl.fz (.int cn)) = v2
  generalize (Sl.fz (.lst (cs.map encK))) = v4
  generalize (Sl.fz (.lst (zs.map .str))) = v5
  generalize (Sl.fz (.int sc)) = v6
  generalize (Sl.fz (.int ba)) = v7
  generalize (Sl.fz (.lst (xs.map encS))) = v8
  generalize (Sl.fz (.int leap)) = v9
  refine mat_nx (eL ns v1 v2 (.fz (.int mn)) v4 v5 v6 v7 v8 v9 (shapeD cs xs leap) .un) (by
    generalize shapeD cs xs leap = sd at *
    unfold eL
    simp [mok]) ?_
  obtain ⟨n, hn0, hn⟩ : ∃ n : Nat, n ≤ 2 ∧ (n : Int) = tn * (if mn < 17 then 1 else 0) := by
    by_cases q : mn < 17
    · exact ⟨tn.toNat, by omega, by rw [if_pos q]; omega⟩
    · exact ⟨0, by omega, by rw [if_neg q]; omega⟩
  obtain ⟨E', f1, s11, cs', xs', leap', rfl, hk', hs', hcl⟩ := runFor_inv (mg := gM 11) (mb := (mSet 10 (mCall 3 m__law_spoilt (mCons (mVar 0) (mCons (mBin addD (mC (.int 27)) (mVarT 11)) (mCons (mVar 10) mNil)))))) (fun j E => ∃ s11 cs xs leap, E = eL ns v1 v2 (.fz (.int mn)) v4 v5 v6 v7 v8 v9 (shapeD cs xs leap) s11 ∧ (∀ c ∈ cs, qK c) ∧ (∀ x ∈ xs, qS x) ∧ ((j = 0 ∧ cs.length ≤ 6 ∧ xs.length ≤ 20) ∨ (j = 1 ∧ cs.length ≤ 20 ∧ xs.length ≤ 85) ∨ (j = 2 ∧ cs.length ≤ 48 ∧ xs.length ≤ 345))) (rangeD 0 n) 0 _ ⟨_, cs, xs, leap, rfl, hk, hs, .inl ⟨rfl, by omega, by omega⟩⟩ fun j d E hd hI => by
    simp only [Nat.zero_add] at hI ⊢
    obtain ⟨s11, cs, xs, leap, rfl, hk, hs, hcl⟩ := hI
    obtain ⟨rfl, hj⟩ := range_at hd
    rw [Int.zero_add]
    obtain ⟨cs', xs', leap', w1, w2, w3, w4, w5⟩ := spoilt_ok ns (at_ := 27 + (j : Int)) (cs := cs) (xs := xs) (leap := leap) (by omega) hk (by omega) hs (by omega)
    refine ⟨eL ns v1 v2 (.fz (.int mn)) v4 v5 v6 v7 v8 v9 (shapeD cs xs leap) (.fz (.int j)), eL ns v1 v2 (.fz (.int mn)) v4 v5 v6 v7 v8 v9 (shapeD cs' xs' leap') (.fz (.int j)), rfl, .inl ?_, _, cs', xs', leap', rfl, w2, w4, by omega⟩
    generalize shapeD cs xs leap = sd at *
    generalize shapeD cs' xs' leap' = sd' at *
    unfold eL
    simp [-addD, addI, w1]
  refine mat_for (rangeD 0 n) _ ?_ f1 ?_
  · have m := mulOk_l (i := tn) (j := if mn < 17 then 1 else 0) (by omega)
    generalize shapeD cs xs leap = sd at *
    unfold eL
    by_cases q : mn < 17
    · rw [if_pos q] at m hn
      simp [-ixD, t1, u1, q, m]
      have : tn.toNat = n := by omega
      rw [this]
      exact ⟨by omega, rfl⟩
    · rw [if_neg q] at m hn
      simp [-ixD, t1, u1, q, m]
      have : n = 0 := by omega
      rw [this]
  · have sk := q_shortK hk' (by omega)
    have ss := q_shortS hs' (by omega)
    have lg := law_good_ok (leap := leap') sk ss
    cases hg : goodAll cs' xs' leap' with
    | true =>
      have mo := made_ok sk ss (q_txtK hk') (q_txtS hs') hg
      rw [hg] at lg
      generalize shapeD cs' xs' leap' = sd at *
      unfold eL
      simp [lg, mo]
      rfl
    | false =>
      have mo := refused_ok sk ss (q_txtK hk') (q_txtS hs') hg
      rw [hg] at lg
      generalize shapeD cs' xs' leap' = sd at *
      unfold eL
      simp [lg, mo]
      rfl
end Sx

namespace Sx
open PySem PySem.Spec PyProof.Rows L2
section
def d__consists_of : He.DefD := ⟨("_consists_of", none), "_consists_of", "_consists_of", defArgs s__consists_of, defBody s__consists_of, defScope s__consists_of, [], []⟩
def d_is_name : He.DefD := ⟨("is_name", none), "is_name", "is_name", defArgs s_is_name, defBody s_is_name, defScope s_is_name, [], []⟩
def d__check_clocks : He.DefD := ⟨("_check_clocks", none), "_check_clocks", "_check_clocks", defArgs s__check_clocks, defBody s__check_clocks, defScope s__check_clocks, [], []⟩
def d__lies_within : He.DefD := ⟨("_lies_within", none), "_lies_within", "_lies_within", defArgs s__lies_within, defBody s__lies_within, defScope s__lies_within, [], []⟩
def d__check_spans : He.DefD := ⟨("_check_spans", none), "_check_spans", "_check_spans", defArgs s__check_spans, defBody s__check_spans, defScope s__check_spans, [], []⟩
def d_init_Trace : He.DefD := ⟨("Trace", some "__init__"), "__init__", "Trace.__init__", defArgs s_init_Trace, defBody s_init_Trace, defScope s_init_Trace, [], [("hop", .int 0)]⟩
def d__later : He.DefD := ⟨("_later", none), "_later", "_later", defArgs s__later, defBody s__later, defScope s__later, [], []⟩
def d_trace_facts : He.DefD := ⟨("trace_facts", none), "trace_facts", "trace_facts", defArgs s_trace_facts, defBody s_trace_facts, defScope s_trace_facts, [], []⟩
def d__law_cell : He.DefD := ⟨("_law_cell", none), "_law_cell", "_law_cell", defArgs s__law_cell, defBody s__law_cell, defScope s__law_cell, [], []⟩
def d__law_draw : He.DefD := ⟨("_law_draw", none), "_law_draw", "_law_draw", defArgs s__law_draw, defBody s__law_draw, defScope s__law_draw, [], []⟩
def d__law_names : He.DefD := ⟨("_law_names", none), "_law_names", "_law_names", defArgs s__law_names, defBody s__law_names, defScope s__law_names, [], []⟩
def d__law_is_number : He.DefD := ⟨("_law_is_number", none), "_law_is_number", "_law_is_number", defArgs s__law_is_number, defBody s__law_is_number, defScope s__law_is_number, [], []⟩
def d__law_same : He.DefD := ⟨("_law_same", none), "_law_same", "_law_same", defArgs s__law_same, defBody s__law_same, defScope s__law_same, [], []⟩
def d__law_more_names : He.DefD := ⟨("_law_more_names", none), "_law_more_names", "_law_more_names", defArgs s__law_more_names, defBody s__law_more_names, defScope s__law_more_names, [], []⟩
def d__law_clocks : He.DefD := ⟨("_law_clocks", none), "_law_clocks", "_law_clocks", defArgs s__law_clocks, defBody s__law_clocks, defScope s__law_clocks, [], []⟩
def d__law_number_of : He.DefD := ⟨("_law_number_of", none), "_law_number_of", "_law_number_of", defArgs s__law_number_of, defBody s__law_number_of, defScope s__law_number_of, [], []⟩
def d__law_places : He.DefD := ⟨("_law_places", none), "_law_places", "_law_places", defArgs s__law_places, defBody s__law_places, defScope s__law_places, [], []⟩
def d__law_due : He.DefD := ⟨("_law_due", none), "_law_due", "_law_due", defArgs s__law_due, defBody s__law_due, defScope s__law_due, [], []⟩
def d__law_spans : He.DefD := ⟨("_law_spans", none), "_law_spans", "_law_spans", defArgs s__law_spans, defBody s__law_spans, defScope s__law_spans, [], []⟩
def d__law_is_name : He.DefD := ⟨("_law_is_name", none), "_law_is_name", "_law_is_name", defArgs s__law_is_name, defBody s__law_is_name, defScope s__law_is_name, [], []⟩
def d__law_good_clocks : He.DefD := ⟨("_law_good_clocks", none), "_law_good_clocks", "_law_good_clocks", defArgs s__law_good_clocks, defBody s__law_good_clocks, defScope s__law_good_clocks, [], []⟩
def d__law_good : He.DefD := ⟨("_law_good", none), "_law_good", "_law_good", defArgs s__law_good, defBody s__law_good, defScope s__law_good, [], []⟩
def d__law_bad_name : He.DefD := ⟨("_law_bad_name", none), "_law_bad_name", "_law_bad_name", defArgs s__law_bad_name, defBody s__law_bad_name, defScope s__law_bad_name, [], []⟩
def d__law_spoilt_clocks : He.DefD := ⟨("_law_spoilt_clocks", none), "_law_spoilt_clocks", "_law_spoilt_clocks", defArgs s__law_spoilt_clocks, defBody s__law_spoilt_clocks, defScope s__law_spoilt_clocks, [], []⟩
def d__law_bad_spans : He.DefD := ⟨("_law_bad_spans", none), "_law_bad_spans", "_law_bad_spans", defArgs s__law_bad_spans, defBody s__law_bad_spans, defScope s__law_bad_spans, [], []⟩
def d__law_moved : He.DefD := ⟨("_law_moved", none), "_law_moved", "_law_moved", defArgs s__law_moved, defBody s__law_moved, defScope s__law_moved, [], []⟩
def d__law_spoilt : He.DefD := ⟨("_law_spoilt", none), "_law_spoilt", "_law_spoilt", defArgs s__law_spoilt, defBody s__law_spoilt, defScope s__law_spoilt, [], []⟩
def d__law_refused : He.DefD := ⟨("_law_refused", none), "_law_refused", "_law_refused", defArgs s__law_refused, defBody s__law_refused, defScope s__law_refused, [], []⟩
def d__law_made : He.DefD := ⟨("_law_made", none), "_law_made", "_law_made", defArgs s__law_made, defBody s__law_made, defScope s__law_made, [], []⟩
def d_law : He.DefD := ⟨("law", none), "law", "law", defArgs s_law, defBody s_law, defScope s_law, [], []⟩
def fnL : List He.DefD := [d__consists_of, d_is_name, d__check_clocks, d__lies_within, d__check_spans, d_init_Trace, d__later, d_trace_facts, d__law_cell, d__law_draw, d__law_names, d__law_is_number, d__law_same, d__law_more_names, d__law_clocks, d__law_number_of, d__law_places, d__law_due, d__law_spans, d__law_is_name, d__law_good_clocks, d__law_good, d__law_bad_name, d__law_spoilt_clocks, d__law_bad_spans, d__law_moved, d__law_spoilt, d__law_refused, d__law_made, d_law]
def faL : List He.Fa := [.glo "_consists_of", .glo "is_name", .glo "_check_clocks", .glo "_lies_within", .glo "_check_spans", .glo "Trace", .glo "_later", .glo "trace_facts", .glo "_law_cell", .glo "_law_draw", .glo "_law_names", .glo "_law_is_number", .glo "_law_same", .glo "_law_more_names", .glo "_law_clocks", .glo "_law_number_of", .glo "_law_places", .glo "_law_due", .glo "_law_spans", .glo "_law_is_name", .glo "_law_good_clocks", .glo "_law_good", .glo "_law_bad_name", .glo "_law_spoilt_clocks", .glo "_law_bad_spans", .glo "_law_moved", .glo "_law_spoilt", .glo "_law_refused", .glo "_law_made", .glo "law", .free "len", .free "set", .free "tuple", .free "enumerate", .free "zip", .free "int", .free "range", .free "isinstance", .free "bool", .free "list", .free "str", .free "min", .free "ValueError", .int "MOST_LETTERS" 12, .str "LETTERS" "abcdefghijklmnopqrstuvwxyz", .str "DIGITS" "0123456789", .int "MOST_CLOCKS" 6, .exc "BadTrace", .int "MOST_ERROR" 1000000, .cls "Trace", .noat "Trace" "clocks", .noat "Trace" "spans", .noat "Trace" "hop", .int "MOST_HOP" 1000000, .noat "Trace" "points", .noat "Trace" "events", .exm "BadTrace" "WatchError" true, .mkr "Trace", .glo "BadTrace", .glo "WatchError", .glo "RESERVED", .glo "SIDES"]
abbrev RR : PySem.W.OpenRow := PySem.W.OpenLaw.row PySem.Challenge.rw_surelyseen_k19_traces_refused
def exL : List FaX := [.tup "RESERVED" ["all", "and", "or", "not", "some", "every", "row", "first", "from", "to", "at", "in"], .tup "SIDES" ["start", "end"], .excc "BadTrace", .kit "BadTrace" "BadTrace" true, .kitb "BadTrace" "ValueError" true]
abbrev hkL : PySem.W.Hook := He.hookX 5 faL fnL [] [] (exOk exL)
def obL (s : PySem.W.SharedT) : He.AlX := He.obsX 5 faL fnL [] [] (exOk exL) (HandSHeadRun.getT s)
theorem obL_eq (s : PySem.W.SharedT) : obL s = hkL.obs s.abs := He.obsX_eq (HandSHeadRun.getT_eq s)
def looseL : List PySem.Str := (["WatchError", "BadTrace", "is_name", "_consists_of", "Trace", "trace_facts", "_later", "_check_clocks", "_check_spans", "_lies_within", "_law_cell", "_law_draw", "_law_names", "_law_is_number", "_law_same", "_law_more_names", "_law_clocks", "_law_number_of", "_law_places", "_law_due", "_law_spans", "_law_is_name", "_law_good_clocks", "_law_good", "_law_bad_name"] : List PySem.Str) ++ (["_law_spoilt_clocks", "_law_bad_spans", "_law_moved", "_law_spoilt", "_law_refused", "_law_made", "LETTERS", "DIGITS", "MOST_LETTERS", "RESERVED", "MOST_CLOCKS", "MOST_ERROR", "MOST_HOP", "SIDES"] : List PySem.Str)
set_option maxHeartbeats 0 in
theorem runL (w : World) : HandSHeadRun.RunEq RR (PySem.W.view RR.prog [43]) hkL obL 4000 looseL w := by
  intro os
  kernel_rfl
variable {P : Program} {w : World} {K : PySem.W.Frag} {mg : Str → Option Value} {base h : Heap}
theorem stands (X : K.In h) (G : h.Ns mainGlobals mg) (c : He.SaysD faL fnL K) (i : Nat) (x : Str) (st : Stmt) (h1 : fnL[i]? = some ⟨(x, none), x, x, defArgs st, defBody st, defScope st, [], []⟩) (h2 : faL[i]? = some (.glo x)) : Stands K mg x st := by
  obtain ⟨fd, F⟩ := c.def_ i h1
  exact ⟨_, fd, He.glo_ok X G (c.fact i h2), F⟩
theorem standsK (X : K.In h) (G : h.Ns mainGlobals mg) (c : He.SaysD faL fnL K) (i : Nat) (x : Str) (st : Stmt) (kws : List (Str × He.Dv)) (h1 : fnL[i]? = some ⟨(x, none), x, x, defArgs st, defBody st, defScope st, [], kws⟩) (h2 : faL[i]? = some (.glo x)) : StandsK K mg x st (kws.map fun q => (q.1, q.2.v K)) := by
  obtain ⟨fd, F⟩ := c.def_ i h1
  exact ⟨_, fd, He.glo_ok X G (c.fact i h2), F⟩
theorem standsI (X : K.In h) (G : h.Ns mainGlobals mg) (c : He.SaysD faL fnL K) (i j : Nat) (x q : Str) (st : Stmt) (h1 : fnL[i]? = some ⟨(x, some "__init__"), "__init__", q, defArgs st, defBody st, defScope st, [], []⟩) (h2 : faL[i]? = some (.glo x)) (h3 : faL[j]? = some (.mkr x)) : StandsI K mg x q st := by
  obtain ⟨fd, F⟩ := c.def_ i h1
  exact ⟨_, fd, He.glo_ok X G (c.fact i h2), He.mkr_ok (c.fact j h3), F⟩
theorem standsIK (X : K.In h) (G : h.Ns mainGlobals mg) (c : He.SaysD faL fnL K) (i j : Nat) (x q : Str) (st : Stmt) (kws : List (Str × He.Dv)) (h1 : fnL[i]? = some ⟨(x, some "__init__"), "__init__", q, defArgs st, defBody st, defScope st, [], kws⟩) (h2 : faL[i]? = some (.glo x)) (h3 : faL[j]? = some (.mkr x)) : StandsIK K mg x q st (kws.map fun q => (q.1, q.2.v K)) := by
  obtain ⟨fd, F⟩ := c.def_ i h1
  exact ⟨_, fd, He.glo_ok X G (c.fact i h2), He.mkr_ok (c.fact j h3), F⟩
theorem factsL (X : K.In h) (G : h.Ns mainGlobals mg) (c : He.SaysD faL fnL K) (ce : exOk exL K = true) {f : Addr} {fd : FuncData} (F : FunD K "law" "law" (defArgs s_law) (defBody s_law) (defScope s_law) [] [] f fd) : FnOk P w K mg base CX0 12 f fd ["script"] (spD K 1 m_law) := by
  have h_len : mg "len" = none := He.free_ok X G (c.fact 30 (f := .free "len") rfl)
  have h_set : mg "set" = none := He.free_ok X G (c.fact 31 (f := .free "set") rfl)
  have h_tuple : mg "tuple" = none := He.free_ok X G (c.fact 32 (f := .free "tuple") rfl)
  have h_enumerate : mg "enumerate" = none := He.free_ok X G (c.fact 33 (f := .free "enumerate") rfl)
  have h_zip : mg "zip" = none := He.free_ok X G (c.fact 34 (f := .free "zip") rfl)
  have h_int : mg "int" = none := He.free_ok X G (c.fact 35 (f := .free "int") rfl)
  have h_range : mg "range" = none := He.free_ok X G (c.fact 36 (f := .free "range") rfl)
  have h_isinstance : mg "isinstance" = none := He.free_ok X G (c.fact 37 (f := .free "isinstance") rfl)
  have h_bool : mg "bool" = none := He.free_ok X G (c.fact 38 (f := .free "bool") rfl)
  have h_list : mg "list" = none := He.free_ok X G (c.fact 39 (f := .free "list") rfl)
  have h_str : mg "str" = none := He.free_ok X G (c.fact 40 (f := .free "str") rfl)
  have h_min : mg "min" = none := He.free_ok X G (c.fact 41 (f := .free "min") rfl)
  have h_ValueError : mg "ValueError" = none := He.free_ok X G (c.fact 42 (f := .free "ValueError") rfl)
  have eg_BadTrace : mg "BadTrace" = some (.ref (He.ga K "BadTrace")) := He.glo_ok X G (c.fact 58 (f := .glo "BadTrace") rfl)
  have eg_WatchError : mg "WatchError" = some (.ref (He.ga K "WatchError")) := He.glo_ok X G (c.fact 59 (f := .glo "WatchError") rfl)
  have eg_RESERVED : mg "RESERVED" = some (.ref (He.ga K "RESERVED")) := He.glo_ok X G (c.fact 60 (f := .glo "RESERVED") rfl)
  have eg_SIDES : mg "SIDES" = some (.ref (He.ga K "SIDES")) := He.glo_ok X G (c.fact 61 (f := .glo "SIDES") rfl)
  have ct_RESERVED := tup_ok eg_RESERVED (ex_at ce 0 (f := .tup "RESERVED" ["all", "and", "or", "not", "some", "every", "row", "first", "from", "to", "at", "in"]) rfl)
  have ct_SIDES := tup_ok eg_SIDES (ex_at ce 1 (f := .tup "SIDES" ["start", "end"]) rfl)
  have ec_BadTrace := excc_ok (ex_at ce 2 (f := .excc "BadTrace") rfl)
  have ki_BadTrace_BadTrace := kit_ok (ex_at ce 3 (f := .kit "BadTrace" "BadTrace" true) rfl)
  have kb_BadTrace_ValueError := kitb_ok (ex_at ce 4 (f := .kitb "BadTrace" "ValueError" true) rfl)
  have g_MOST_LETTERS : ∃ t, mg "MOST_LETTERS" = some (.int 12 t) := He.int_ok X G (c.fact 43 (f := .int "MOST_LETTERS" 12) rfl)
  have g_LETTERS : ∃ t, mg "LETTERS" = some (.str "abcdefghijklmnopqrstuvwxyz" t) := He.str_ok X G (c.fact 44 (f := .str "LETTERS" "abcdefghijklmnopqrstuvwxyz") rfl)
  have g_DIGITS : ∃ t, mg "DIGITS" = some (.str "0123456789" t) := He.str_ok X G (c.fact 45 (f := .str "DIGITS" "0123456789") rfl)
  have g_MOST_CLOCKS : ∃ t, mg "MOST_CLOCKS" = some (.int 6 t) := He.int_ok X G (c.fact 46 (f := .int "MOST_CLOCKS" 6) rfl)
  have x_BadTrace := exf_ok eg_BadTrace (c.fact 47 (f := .exc "BadTrace") rfl)
  have g_MOST_ERROR : ∃ t, mg "MOST_ERROR" = some (.int 1000000 t) := He.int_ok X G (c.fact 48 (f := .int "MOST_ERROR" 1000000) rfl)
  have k_Trace : Cls K (He.ga K "Trace") := He.cls_ok (c.fact 49 (f := .cls "Trace") rfl)
  have n_Trace_clocks : NoAttr K (He.ga K "Trace") "clocks" := He.noat_ok (c.fact 50 (f := .noat "Trace" "clocks") rfl)
  have n_Trace_spans : NoAttr K (He.ga K "Trace") "spans" := He.noat_ok (c.fact 51 (f := .noat "Trace" "spans") rfl)
  have n_Trace_hop : NoAttr K (He.ga K "Trace") "hop" := He.noat_ok (c.fact 52 (f := .noat "Trace" "hop") rfl)
  have g_MOST_HOP : ∃ t, mg "MOST_HOP" = some (.int 1000000 t) := He.int_ok X G (c.fact 53 (f := .int "MOST_HOP" 1000000) rfl)
  have n_Trace_points : NoAttr K (He.ga K "Trace") "points" := He.noat_ok (c.fact 54 (f := .noat "Trace" "points") rfl)
  have n_Trace_events : NoAttr K (He.ga K "Trace") "events" := He.noat_ok (c.fact 55 (f := .noat "Trace" "events") rfl)
  have em_BadTrace_WatchError := He.exm_ok (c.fact 56 (f := .exm "BadTrace" "WatchError" true) rfl)
  have c__consists_of := cal__consists_of (P := P) (w := w) (base := base) (stands X G c 0 "_consists_of" s__consists_of rfl rfl)
  have c_is_name := cal_is_name (P := P) (w := w) (base := base) (stands X G c 1 "is_name" s_is_name rfl rfl) c__consists_of g_MOST_LETTERS ct_RESERVED g_LETTERS g_DIGITS h_len
  have c__check_clocks := cal__check_clocks (P := P) (w := w) (base := base) (stands X G c 2 "_check_clocks" s__check_clocks rfl rfl) c_is_name g_MOST_CLOCKS x_BadTrace g_MOST_ERROR h_len h_set
  have c__lies_within := cal__lies_within (P := P) (w := w) (base := base) (stands X G c 3 "_lies_within" s__lies_within rfl rfl)
  have c__check_spans := cal__check_spans (P := P) (w := w) (base := base) (stands X G c 4 "_check_spans" s__check_spans rfl rfl) c_is_name c__lies_within x_BadTrace
  have i_Trace := calI_init_Trace (P := P) (w := w) (base := base) (standsIK X G c 5 57 "Trace" "Trace.__init__" s_init_Trace [("hop", .int 0)] rfl rfl rfl) c__check_clocks c__check_spans k_Trace n_Trace_clocks n_Trace_spans n_Trace_hop g_MOST_HOP x_BadTrace n_Trace_points n_Trace_events ct_SIDES h_tuple h_len h_enumerate h_zip
  have c__later := cal__later (P := P) (w := w) (base := base) (stands X G c 6 "_later" s__later rfl rfl) k_Trace n_Trace_events
  have f__later := calF__later (P := P) (w := w) (base := base) (stands X G c 6 "_later" s__later rfl rfl) k_Trace n_Trace_events
  have c_trace_facts := cal_trace_facts (P := P) (w := w) (base := base) (stands X G c 7 "trace_facts" s_trace_facts rfl rfl) f__later k_Trace n_Trace_clocks n_Trace_spans n_Trace_hop h_enumerate
  have f_trace_facts := calF_trace_facts (P := P) (w := w) (base := base) (stands X G c 7 "trace_facts" s_trace_facts rfl rfl) f__later k_Trace n_Trace_clocks n_Trace_spans n_Trace_hop h_enumerate
  have c__law_cell := cal__law_cell (P := P) (w := w) (base := base) (stands X G c 8 "_law_cell" s__law_cell rfl rfl) h_len h_int
  have c__law_draw := cal__law_draw (P := P) (w := w) (base := base) (stands X G c 9 "_law_draw" s__law_draw rfl rfl) c__law_cell h_range h_int
  have c__law_names := cal__law_names (P := P) (w := w) (base := base) (stands X G c 10 "_law_names" s__law_names rfl rfl) c__law_draw h_range h_int
  have f__law_names := calF__law_names (P := P) (w := w) (base := base) (stands X G c 10 "_law_names" s__law_names rfl rfl) c__law_draw h_range h_int
  have c__law_is_number := cal__law_is_number (P := P) (w := w) (base := base) (stands X G c 11 "_law_is_number" s__law_is_number rfl rfl) h_isinstance h_int h_bool
  have c__law_same := cal__law_same (P := P) (w := w) (base := base) (stands X G c 12 "_law_same" s__law_same rfl rfl) c__law_is_number h_isinstance h_list h_tuple h_len h_range h_str
  have c__law_more_names := cal__law_more_names (P := P) (w := w) (base := base) (stands X G c 13 "_law_more_names" s__law_more_names rfl rfl) f__law_names h_min h_len h_range
  have c__law_clocks := cal__law_clocks (P := P) (w := w) (base := base) (stands X G c 14 "_law_clocks" s__law_clocks rfl rfl) c__law_names c__law_draw h_range
  have c__law_number_of := cal__law_number_of (P := P) (w := w) (base := base) (stands X G c 15 "_law_number_of" s__law_number_of rfl rfl) h_len h_range
  have c__law_places := cal__law_places (P := P) (w := w) (base := base) (stands X G c 16 "_law_places" s__law_places rfl rfl) c__law_number_of h_len
  have c__law_due := cal__law_due (P := P) (w := w) (base := base) (stands X G c 17 "_law_due" s__law_due rfl rfl) c__law_places c__law_number_of h_len h_range
  have c__law_spans := cal__law_spans (P := P) (w := w) (base := base) (stands X G c 18 "_law_spans" s__law_spans rfl rfl) c__law_draw h_len h_range h_int
  have c__law_is_name := cal__law_is_name (P := P) (w := w) (base := base) (stands X G c 19 "_law_is_name" s__law_is_name rfl rfl) h_len h_range
  have c__law_good_clocks := cal__law_good_clocks (P := P) (w := w) (base := base) (stands X G c 20 "_law_good_clocks" s__law_good_clocks rfl rfl) c__law_is_name h_len
  have c__law_good := cal__law_good (P := P) (w := w) (base := base) (stands X G c 21 "_law_good" s__law_good rfl rfl) c__law_good_clocks c__law_is_name c__law_number_of h_len h_range
  have c__law_bad_name := cal__law_bad_name (P := P) (w := w) (base := base) (stands X G c 22 "_law_bad_name" s__law_bad_name rfl rfl) c__law_draw h_min
  have c__law_spoilt_clocks := cal__law_spoilt_clocks (P := P) (w := w) (base := base) (stands X G c 23 "_law_spoilt_clocks" s__law_spoilt_clocks rfl rfl) c__law_draw c__law_bad_name h_len h_range h_str
  have c__law_bad_spans := cal__law_bad_spans (P := P) (w := w) (base := base) (stands X G c 24 "_law_bad_spans" s__law_bad_spans rfl rfl) c__law_draw c__law_bad_name h_len
  have c__law_moved := cal__law_moved (P := P) (w := w) (base := base) (stands X G c 25 "_law_moved" s__law_moved rfl rfl) c__law_draw h_len
  have c__law_spoilt := cal__law_spoilt (P := P) (w := w) (base := base) (stands X G c 26 "_law_spoilt" s__law_spoilt rfl rfl) c__law_draw c__law_bad_spans c__law_moved c__law_spoilt_clocks h_len
  have c__law_refused := cal__law_refused (P := P) (w := w) (base := base) (stands X G c 27 "_law_refused" s__law_refused rfl rfl) i_Trace eg_WatchError em_BadTrace_WatchError eg_BadTrace ec_BadTrace ki_BadTrace_BadTrace kb_BadTrace_ValueError h_list h_isinstance h_ValueError
  have c__law_made := cal__law_made (P := P) (w := w) (base := base) (stands X G c 28 "_law_made" s__law_made rfl rfl) c__law_same c__law_due c_trace_facts f_trace_facts i_Trace k_Trace n_Trace_spans n_Trace_clocks n_Trace_hop h_list h_tuple h_range
  exact fn_law F c__law_draw c__law_clocks c__law_more_names c__law_spans c__law_made c__law_spoilt c__law_good c__law_refused h_min h_int h_range
theorem lastL (hm : ∀ ns : List Int, ns.length ≤ 63 → m_law [.scr ns] = some (.bl true)) (X : K.In h) (G : h.Ns mainGlobals mg) (c : He.SaysD faL fnL K) (ce : exOk exL K = true) {fa : Addr} (hmg : mg "law" = some (.ref fa)) :
    ∃ (K : PySem.W.Frag) (fd : FuncData) (sp : Sp), K.In h ∧ (∀ (s : Shared) (u : Value), BindsTo s fd ⟨[u], []⟩ [("script", u)]) ∧
        (∀ (H : Hp) (a : Addr) (ns : List Int), ns.length ≤ 63 → Only H → SqL K H a (ns.map V.int) → sp [.ref a] H (fun v _ => v = .bl true) fun _ _ _ => False) ∧
        ∀ base : Heap, K.In base → base.Ns mainGlobals mg → FnOk P w K mg base CX0 12 fa fd ["script"] sp := by
  obtain ⟨f, fd, g, F⟩ := (stands X G c 29 "law" s_law rfl rfl).ex
  rw [g] at hmg
  cases hmg
  have F0 := F
  obtain ⟨oc, od, dV, kV, doc, pm, an, cdv, ct, osl, rfl, lk, hcd, hd, _⟩ := F0.ex
  have hdv : dV = .none := by
    rcases hd with ⟨_, h⟩ | ⟨z, _⟩
    · exact h
    · exact absurd rfl z
  subst hdv
  refine ⟨K, _, spD K 1 m_law, X, fun s u => .of_eq (bd_law kV doc pm an cdv ct [u] rfl), fun H a ns hl _ hS => ⟨noS, [.scr ns], .bl true, fun a z => z.elim, .cons ((Rp.scr hS).mono rem_no _) .nil, rfl, hm ns hl, fun v H' _ r => ?_⟩, fun base _ _ => factsL X G c ce F⟩
  cases r
  rfl
end
end Sx
open PySem PySem.W PySem.Calls PyProof.Rows
set_option maxHeartbeats 0 in
theorem PySem.Challenge.cw_surelyseen_k19_traces_refused_holds : PySem.Challenge.rw_surelyseen_k19_traces_refused.Holds := by
  w_on; o_law
  refine HandSHeadRun.head_any (r := OpenLaw.row PySem.Challenge.rw_surelyseen_k19_traces_refused) (q := view (OpenLaw.row PySem.Challenge.rw_surelyseen_k19_traces_refused).prog [43]) (H := Sx.hkL) (ob := Sx.obL) (M := 4000) (loose := Sx.looseL) (d := HandSHeadRun.topDef (OpenLaw.row PySem.Challenge.rw_surelyseen_k19_traces_refused).prog 43) (kwd := []) Sx.obL_eq
    (by kernel_rfl) (fun s => by kernel_rfl) Sx.runL (by kernel_rfl) (by kernel_rfl) (by kernel_rfl) (by rfl) (by first | assumption | decide +kernel) (by decide +kernel) ⟨rfl, rfl, rfl, rfl, rfl, by decide +kernel⟩ ?hw ?hc
  case hw => w_witness2
  case hc =>
    refine L2.walk_ofE (l := PySem.Challenge.rw_surelyseen_k19_traces_refused) (n := 63) (k := 12) (x := "script") (CX := L2.CX0) rfl (by decide) (by kernel_rfl) ⟨rfl, by decide, by decide⟩ ?F (fun _ _ _ _ z => z)
    intro w mg fa h Y G hmg0
    obtain ⟨K, KX, c⟩ := Y
    have hmg : mg ("law" : PySem.Str) = some (.ref fa) := by
      have e : (HandSHeadRun.topDef (OpenLaw.row PySem.Challenge.rw_surelyseen_k19_traces_refused).prog 43).name = ("law" : PySem.Str) := by kernel_rfl
      rw [← e]
      exact hmg0
    exact Sx.lastL Sx.law_true KX G c.t.d c.more hmg
