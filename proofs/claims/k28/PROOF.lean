import PyProof.Rows.All
import Wide.All
import OpenK.AllK
import Wide.FinOn
import HandS.ForMost
import HandS.IsInst
import HandS.FStr
import HandS.Codes
import HandS.Star
import HandS.Zip
import HandS.More
import HandS.Defaults
import HandS.Rev
import HandS.Walk
import HandS.TupAny
import HandS.TupMul
import HandS.Wide
import HandS.Style
import HandS.Iter
import HandS.Conv
import KE.KTurns
import KE.GoesMore
import HandS.Set
import HandS.SetFor
import HandS.Strs
import PySem.Challenge.RW_neverhappens_k28_whole_rounding_is_a_clo
set_option Elab.async false
set_option linter.all false
set_option maxRecDepth 100000
set_option maxHeartbeats 4000000
namespace SetL
open PySem PySem.Spec PyProof.Rows L2
/-! ### set(l) of a list of whole numbers, as a tracked set -/
/-- the set as it is made, without members -/
abbrev noneIn (w : World) : Obj := { cls := .type "set", dict := none, data := .set #[] 0 (.fresh 0 0 (!w.params.followText "set-order")) }
section
variable {P : Program} {w : World} {A : Around} {E : Value → Shared → Prop} {s : Shared}
/-- what stands when the set is full -/
def FullSet (w : World) (s : Shared) (ns : List Int) (z : Shared) : Prop :=
  ∃ (u : Heap) (k c : Nat), z = { s with heap := u, toks := k } ∧ SetR w u s.heap.objs.size (fun j => decide (j ∈ ns)) c ∧ c ≤ ns.length ∧ ∀ b o, s.heap.get? b = some o → u.get? b = some o
/-- the loop of set.__init__ over a list -/
theorem fill_list {l : Addr} {xs : Array Value} (ns : List Int) {A : Around} (hh : A.handled = none) (hl : s.heap.IsList l xs) (hi : IntsAre xs.toList ns) (hb : ns.length + 1 < scanBound) {z : Shared} (ez : z = { s with heap := s.heap.push (noneIn w) })
    {α : Type} {g : Value → Sem α} {Q : α → Shared → Prop} (q : ∀ z, FullSet w s ns z → wpAny (model P w) A (g Value.none) Q E z) :
    wpAny (model P w) A (pyIter (.ref l)) (fun i z => wpAny (model P w) A (runValue (.builtin "set.update.loop" ⟨[.ref s.heap.objs.size, i], []⟩) >>= g) Q E z) E z := by
  subst ez
  have len : xs.size = ns.length := by
    have e := IntsAre.length hi
    rwa [Array.length_toList] at e
  have lt : l < s.heap.objs.size := by
    obtain ⟨_, e, _⟩ := hl
    exact Heap.lt_size e
  have sz : (s.heap.push (noneIn w)).objs.size = s.heap.objs.size + 1 := Heap.size_push ..
  have hl1 : (s.heap.push (noneIn w)).IsList l xs := hl.push _
  refine wpAny_pyIter_list hl1 ?_
  refine wpAny_bind (wpAny_runValue ?_)
  have n1 : l ≠ (s.heap.push (noneIn w)).objs.size := by rw [sz]; exact Nat.ne_of_lt (Nat.lt_succ_of_lt lt)
  have n2 : s.heap.objs.size ∉ [(s.heap.push (noneIn w)).objs.size, l] := by
    rw [sz]
    intro h
    rcases List.mem_cons.mp h with e | e
    · exact Nat.ne_of_lt (Nat.lt_succ_self _) e
    · exact Nat.ne_of_lt lt (List.mem_singleton.mp e).symm
  have val : ∀ (i : Nat) (v : Value), xs[i]? = some v → ∃ (k : Int) (t : Tok), ns[i]? = some k ∧ v = Value.int k t := fun i v e => by
    have b : i < ns.length := len ▸ (Array.getElem?_eq_some_iff.mp e).1
    obtain ⟨t, f⟩ := hi.int_at i v (by rw [Array.getElem?_toList]; exact e)
    exact ⟨ns[i], t, List.getElem?_eq_getElem b, by rw [f, List.getD_eq_getElem?_getD, List.getElem?_eq_getElem b]; rfl⟩
  refine set_update_ints ((Walks.list (A := A.in1) hh _ l n1 xs).toS) _ n2 ns len hb val xs.size 0 _ rfl (Nat.zero_le _) ⟨⟨_, Heap.get?_push_size _ rfl, rfl, rfl⟩, hl1.push _⟩ ⟨0, Nat.le_refl 0, setR_new_at (Heap.get?_push_of_some _ (Heap.get?_push_size _ rfl))⟩ ?_
  rintro ⟨u, g, d, k, o⟩ c hm hc hS
  have e1 : g = s.gens := hm.gens
  have e2 : d = s.drawn := hm.drawn
  have e3 : o = s.os := hm.os
  subst e1 e2 e3
  refine q _ ⟨u, k, c, rfl, hS, by omega, fun b o e => ?_⟩
  have lb := Heap.lt_size e
  refine hm.heap b o (fun h => ?_) (Heap.get?_push_of_some _ (Heap.get?_push_of_some _ e))
  rw [sz] at h
  rcases List.mem_cons.mp h with e | e
  · exact Nat.ne_of_lt lb e
  · exact Nat.ne_of_lt (Nat.lt_succ_of_lt lb) (List.mem_singleton.mp e)
set_option maxHeartbeats 6400000 in
theorem set_of_list {l : Addr} {xs : Array Value} (ns : List Int) {Q : Value → Shared → Prop} (hh : A.handled = none) (hl : s.heap.IsList l xs) (hi : IntsAre xs.toList ns) (hb : ns.length + 1 < scanBound)
    (q : ∀ z, FullSet w s ns z → Q (.ref s.heap.objs.size) z) : wpAny (model P w) A (call (.type "set") [.ref l]) Q E s := by
  obtain ⟨_, _, mro⟩ := F.called_set.mro
  have i1 := F.called_set.made; have i2 := F.called_set.sub; have i3 := F.called_set.notType; have i4 := F.called_set.canCreate
  have i5 := F.typeCall_set_1 (.ref l)
  refine wpAny_call (codeAny_of_tree (show wpAny _ _ (callAny (.type "set") _) _ _ _ from ?_))
  refine wpAny_pure ⟨Code.quiet_builtin _ (by decide +kernel), codeAny_builtin F.entry_type_call ?_⟩
  rw [Around.under_plain (weight_type_call_type "set" [.ref l] []) rfl]; repeat any_goals first | assumption | wp_step
  have mk := code_set_led1 (P := P) (w := w) (A := A.in1) (E := E) (s := s) (.ref l) (Q₁ := fun o z => o = .ref s.heap.objs.size ∧ z = { s with heap := s.heap.push (noneIn w) }) ⟨rfl, rfl⟩
  refine codeAny_mono mk fun r z hr => ?_
  rcases r with e | fl
  · exact hr
  cases fl with
  | ret o =>
    obtain ⟨rfl, ez⟩ := hr
    have at0 : z.heap.get? s.heap.objs.size = some (noneIn w) := by rw [ez]; exact Heap.get?_push_size _ rfl
    have ty : Shared.TypeIs z (.ref s.heap.objs.size) "set" := ⟨_, at0, rfl⟩
    have j1 := F.called_set.init.lookup; have j2 := F.called_set.init.bind (.ref s.heap.objs.size)
    repeat any_goals first | assumption | wp_step
    refine codeAny_mono (codeAny_call_builtin (R := wants (fun v z => v = Value.none ∧ FullSet w s ns z) E) F.called_set.init.plain F.entry_set_init (check_set_init_1 ty ?_)) fun r2 z2 hr2 => ?_
    · have ol : z.heap.IsList l xs := by rw [ez]; exact hl.push _
      obtain ⟨ob, g1, g2, g3, g4⟩ := id ol
      obtain ⟨ocls, odict, odata, oslots⟩ := ob
      simp only at g2 g4
      subst g2 g4
      have k1 := F.sub_list_set; have k2 := F.sub_list_frozenset; have k3 : (Value.type "list" == Value.type "dict") = false := by decide
      unfold Builtin.«set.__init__» noKeywords Builtin.Frozenset.updateFrom
      generalize eI : pyIter = it
      wp_walk
      subst eI
      refine fill_list ns (by simp [hh]) hl hi hb (by rw [← ez]) fun z2 hz => ?_
      exact wpAny_pure (wpAny_pure ⟨rfl, hz⟩)
    · rcases r2 with e | fl2
      · exact hr2
      cases fl2 with
      | ret v =>
        obtain ⟨rfl, hz⟩ := hr2
        repeat any_goals first | assumption | wp_step
        exact q _ hz
      | _ => exact hr2.elim
  | _ => exact hr.elim
end
section
variable {X : Cx}
def rSetL (K : PySem.W.Frag) (w : World) : List V → Hp → VK → Prop := fun vs H Q => ∃ (a : Addr) (ns : List Int), vs = [V.ref a] ∧ SqL K H a (ns.map V.int) ∧ ns.length ≤ 1000 ∧ ∀ (p : Addr) (c : Nat), H p = none → c ≤ ns.length → Q (.ref p) (upd H p (SetO w p (fun j => decide (j ∈ ns)) c))
theorem cr_setL (hc : X.calm = true) : CallR X (.type "set") (rSetL X.K X.w) := by
  intro pins s σ H vs us Q I r h
  obtain ⟨a, ns, rfl, hs, hn, q⟩ := h
  obtain ⟨its, rv, hl, _⟩ := I.list hs
  rw [Vals.ref1 r]
  refine set_of_list ns (I.ok.hd hc) hl.isList rv.ints (by unfold scanBound; omega) fun z hz => ?_
  obtain ⟨u, k, c, rfl, hS, hcn, keep⟩ := hz
  exact ⟨.ref _, upd H s.heap.objs.size (SetO X.w s.heap.objs.size (fun j => decide (j ∈ ns)) c), I.laid (t' := k) keep (Nat.le_refl _) (setO_new hS), rfl, q _ c (I.hok.fresh (Nat.le_refl _)) hcn⟩
end
end SetL
namespace ZG
open PySem PySem.Spec PyProof.Rows L2
/-! ### zip of two rows, each a list or a tuple; the target any -/
def ItAt (t : Bool) (h : Heap) (i l : Addr) (k : Nat) : Prop := match t with
  | true => h.IsTupleIter i l k
  | false => h.IsListIter i l k
def SeqIs (t : Bool) (h : Heap) (l : Addr) (xs : Array Value) : Prop := match t with
  | true => h.IsTuple l xs
  | false => h.IsList l xs
def Sq (t : Bool) (K : PySem.W.Frag) (H : Hp) (a : Addr) (xs : List V) : Prop := match t with
  | true => SqT K H a xs
  | false => SqL K H a xs
theorem ItAt.on {t : Bool} {h h' : Heap} {i l : Addr} {k : Nat} (x : ItAt t h i l k) (e : ∀ o, h.get? i = some o → h'.get? i = some o) : ItAt t h' i l k := by
  cases t
  · exact Heap.IsListIter.at x e
  · exact Heap.IsTupleIter.at x e
theorem ItAt.get {t : Bool} {h : Heap} {i l : Addr} {k : Nat} (x : ItAt t h i l k) : ∃ o fs, h.get? i = some o ∧ o.data = .fields fs := by
  cases t <;> (obtain ⟨o, e, _, d⟩ := x; exact ⟨o, _, e, d⟩)
theorem SeqIs.on {t : Bool} {h h' : Heap} {b l : Addr} {xs : Array Value} (x : SeqIs t h l xs) (hs : Heap.ExtBut b h h') (ne : l ≠ b) : SeqIs t h' l xs := by
  cases t
  · exact Heap.IsList.extBut x hs ne
  · exact Heap.IsTuple.extBut x hs ne
theorem SeqIs.push {t : Bool} {h : Heap} {l : Addr} {xs : Array Value} (x : SeqIs t h l xs) (o : Obj) : SeqIs t (h.push o) l xs := by
  cases t
  · exact Heap.IsList.push x o
  · exact Heap.IsTuple.push x o
theorem SeqIs.lt {t : Bool} {h : Heap} {l : Addr} {xs : Array Value} (x : SeqIs t h l xs) : l < h.objs.size := by
  cases t <;> (obtain ⟨o, e, _⟩ := x; exact Heap.lt_size e)
abbrev itObj (t : Bool) (l : Addr) : Obj := { cls := .type (if t then "tuple_iterator" else "list_iterator"), data := .fields #[.ref l, .int 0 0] }
theorem itAt_new (t : Bool) {h : Heap} {i l : Addr} (e : h.get? i = some (itObj t l)) : ItAt t h i l 0 := by
  cases t <;> exact ⟨_, e, rfl, rfl⟩
section
variable {prog : Program} {w : World} {A : Around} {E : Value → Shared → Prop} {s : Shared}
theorem nextIn_item {t : Bool} {i l : Addr} {k : Nat} {xs : Array Value} {x : Value} {Q : Value → Shared → Prop} (h1 : ItAt t s.heap i l k) (h2 : SeqIs t s.heap l xs) (hx : xs[k]? = some x)
    (q : ∀ h', ItAt t h' i l (k + 1) → Heap.SameBut i s.heap h' → Q x { s with heap := h' }) : wpAny (model prog w) A (Builtin.SmallTypes.nextOf (.ref i)) Q E s := by
  cases t
  · exact wpAny_nextOf_list_item h1 h2 hx q
  · exact RZ.nextOf_tuple_item h1 h2 hx q
theorem nextIn_end {t : Bool} {i l : Addr} {k : Nat} {xs : Array Value} {Q : Value → Shared → Prop} (hh : A.handled = none) (h1 : ItAt t s.heap i l k) (h2 : SeqIs t s.heap l xs) (hx : xs[k]? = none)
    (q : ∀ h' e, Heap.ExtBut i s.heap h' → (∃ o, h'.get? e = some o ∧ o.cls = .type "StopIteration") → E (.ref e) { s with heap := h' }) : wpAny (model prog w) A (Builtin.SmallTypes.nextOf (.ref i)) Q E s := by
  cases t
  · exact wpAny_nextOf_list_end hh h1 h2 hx q
  · exact RZ.nextOf_tuple_end hh h1 h2 hx q
/-- the zip at z: f0 tells which tuple it gave out -/
abbrev ZipSt (h : Heap) (z TI TO : Addr) (f0 : Value) (f : Bool) : Prop :=
  h.get? z = some { cls := .type "zip", dict := none, data := .fields #[f0, .bool f, .bool false, .ref TI, .ref TO], slots := #[] }
def Gave (f0 : Value) : Prop := f0 = .none ∨ ∃ T : Addr, f0 = rawInt T
theorem gave_free {z TI TO : Addr} {f0 : Value} {f : Bool} {Q : Bool → Shared → Prop} (hz : ZipSt s.heap z TI TO f0 f) (g : Gave f0) (q1 : Q true s)
    (q2 : ∀ h', ZipSt h' z TI TO f0 true → Heap.SameBut z s.heap h' → Q false { s with heap := h' }) : wpAny (model prog w) A (Builtin.SmallTypes.ownedTupleIsFree (.ref z)) Q E s := by
  unfold Builtin.SmallTypes.ownedTupleIsFree
  rcases g with rfl | ⟨T, rfl⟩
  · exact wpAny_bind (wpAny_field hz rfl (x := .none) rfl (wpAny_pure q1))
  refine wpAny_bind (wpAny_field hz rfl (x := rawInt T) rfl ?_)
  show wpAny _ _ (loadIfAlive ((T : Int).toNat) >>= _) _ _ _
  rw [Int.toNat_natCast]
  have k : ∀ {Q' : Option Obj → Shared → Prop}, Q' (s.heap.get? T) s → wpAny (model prog w) A (loadIfAlive T) Q' E s := fun h => fun _ _ _ => h
  refine wpAny_bind (k ?_)
  cases s.heap.get? T with
  | none =>
    simp only [Option.isNone_none, if_true]
    exact wpAny_pure q1
  | some oT =>
    simp only [Option.isNone_some, Bool.false_eq_true, if_false]
    refine wpAny_bind (wpAny_field hz rfl (x := .bool f) rfl ?_)
    cases f with
    | true =>
      rw [if_neg (show ¬ ((Value.bool true != Value.bool true) = true) from Bool.false_ne_true)]
      exact wpAny_pure (q2 s.heap hz (Heap.SameBut.refl _ _))
    | false =>
      rw [if_pos (show (Value.bool false != Value.bool true) = true from rfl)]
      exact wpAny_bind (wpAny_setField_rec hz (by simp) fun h₁ z1 s1 => wpAny_pure (q2 h₁ z1 s1))
/-- a zip that has an item left -/
theorem zipG_item {t1 t2 : Bool} {z TI TO i1 i2 l1 l2 : Addr} {f0 : Value} {f : Bool} {k1 k2 : Nat} {xs ys : Array Value} {x y a b : Value} {Q : Option Value → Shared → Prop} (D : ZipApart z TI TO i1 i2 l1 l2)
    (hz : ZipSt s.heap z TI TO f0 f) (g : Gave f0) (hTI : IsPair s.heap TI (.ref i1) (.ref i2)) (hTO : IsPair s.heap TO a b)
    (h1 : ItAt t1 s.heap i1 l1 k1) (h2 : ItAt t2 s.heap i2 l2 k2) (hl1 : SeqIs t1 s.heap l1 xs) (hl2 : SeqIs t2 s.heap l2 ys) (hx : xs[k1]? = some x) (hy : ys[k2]? = some y)
    (hQ : ∀ h' f0' f', ZipSt h' z TI TO f0' f' → Gave f0' → (∃ a b, IsPair h' TO a b) → ItAt t1 h' i1 l1 (k1 + 1) → ItAt t2 h' i2 l2 (k2 + 1) → IsPair h' s.heap.objs.size x y → h'.objs.size = s.heap.objs.size + 1 →
      (∀ c o, c ≠ z → c ≠ TO → c ≠ i1 → c ≠ i2 → s.heap.get? c = some o → h'.get? c = some o) → Q (some (.ref s.heap.objs.size)) { s with heap := h' }) :
    wpAny (model prog w) A (pyNext (.ref z)) Q E s := by
  have hT : s.TypeIs (.ref z) "zip" := ⟨_, hz, rfl⟩
  unfold pyNext
  refine wpAny_bind (wpAny_attempt (wpAny_callSpecial?_slot (name := Str.ofString "__next__") hT F.slot_zip_next (wpAny_call_entry F.slot_zip_next hT F.entry_zip_next ?_ (F.args_zip_next_1 _))))
  show wpAny _ _ (field (.ref z) 2 >>= _) _ _ _
  refine wpAny_bind (wpAny_field hz rfl (x := .bool false) rfl ?_)
  show wpAny _ _ (field (.ref z) 3 >>= _) _ _ _
  refine wpAny_bind (wpAny_field hz rfl (x := .ref TI) rfl ?_)
  refine wpAny_bind (wpAny_seqItems hTI rfl ?_)
  refine wpAny_bind (gave_free (z := z) hz g ?free fun u1 z1 s1 => ?held)
  case free =>
    simp only [if_true]
    refine wpAny_bind (wpAny_rule ?_)
    refine wpAny_bind (wpAny_field hz rfl (x := .ref TO) rfl ?_)
    refine wpAny_bind (wpAny_setField_rec hz (by simp) fun u1 z1 s1 => ?_)
    replace z1 : ZipSt u1 z TI TO .ellipsis f := z1
    refine wpAny_bind ?_
    simp only [List.zipIdx_cons, List.zipIdx_nil, List.forIn_cons, List.forIn_nil]
    refine wpAny_bind (wpAny_bind (wpAny_onRaise ?_))
    show wpAny _ _ (Builtin.SmallTypes.nextOf (.ref i1) >>= _) _ _ _
    refine wpAny_bind (nextIn_item (h1.on fun o e => s1.extBut _ _ D.i1z e) (hl1.on s1.extBut D.l1z) hx fun u2 a2 s2 => wpAny_pure ?_)
    have p2 : IsPair u2 TO a b := s2.extBut _ _ D.TOi1 (s1.extBut _ _ D.TOz hTO)
    refine wpAny_bind (wpAny_seqItems p2 rfl ?_)
    refine wpAny_bind (wpAny_updateSeq_pair p2 fun u3 p3 s3 => ?_)
    replace p3 : IsPair u3 TO x b := p3
    refine wpAny_bind (wpAny_letGo (wpAny_pure ?_))
    refine wpAny_bind (wpAny_bind (wpAny_onRaise ?_))
    show wpAny _ _ (Builtin.SmallTypes.nextOf (.ref i2) >>= _) _ _ _
    refine wpAny_bind (nextIn_item (h2.on fun o e => s3.extBut _ _ D.TOi2.symm (s2.extBut _ _ D.i12.symm (s1.extBut _ _ D.i2z e)))
      (((hl2.on s1.extBut D.l2z).on s2.extBut D.l2i1).on s3.extBut D.l2TO) hy fun u4 a4 s4 => wpAny_pure ?_)
    have p4 : IsPair u4 TO x b := s4.extBut _ _ D.TOi2 p3
    refine wpAny_bind (wpAny_seqItems p4 rfl ?_)
    refine wpAny_bind (wpAny_updateSeq_pair p4 fun u5 p5 s5 => ?_)
    replace p5 : IsPair u5 TO x y := p5
    refine wpAny_bind (wpAny_letGo (wpAny_pure (wpAny_pure ?_)))
    refine wpAny_bind (wpAny_seqItems p5 rfl ?_)
    refine wpAny_bind (wpAny_newTuple ?_)
    have sz : u5.objs.size = s.heap.objs.size := by rw [s5.1, s4.1, s3.1, s2.1, s1.1]
    have z5 : ZipSt u5 z TI TO .ellipsis f := s5.extBut _ _ D.TOz.symm (s4.extBut _ _ D.i2z.symm (s3.extBut _ _ D.TOz.symm (s2.extBut _ _ D.i1z.symm z1)))
    have k5 : ∀ c o, c ≠ z → c ≠ TO → c ≠ i1 → c ≠ i2 → s.heap.get? c = some o → u5.get? c = some o := fun c o c1 c2 c3 c4 e =>
      s5.extBut _ _ c2 (s4.extBut _ _ c4 (s3.extBut _ _ c2 (s2.extBut _ _ c3 (s1.extBut _ _ c1 e))))
    have b1 : ItAt t1 u5 i1 l1 (k1 + 1) := a2.on fun o e => s5.extBut _ _ D.TOi1.symm (s4.extBut _ _ D.i12 (s3.extBut _ _ D.TOi1.symm e))
    have b2 : ItAt t2 u5 i2 l2 (k2 + 1) := a4.on fun o e => s5.extBut _ _ D.TOi2.symm e
    have zl : z < u5.objs.size := Heap.lt_size z5
    show wpAny _ _ (Builtin.SmallTypes.ownedTupleHandOut (.ref z) (.ref u5.objs.size) >>= _) _ _ _
    refine wpAny_bind ?_
    unfold Builtin.SmallTypes.ownedTupleHandOut
    have z6 : ZipSt (u5.push { cls := .type "tuple", data := .seq #[x, y] }) z TI TO .ellipsis f := Heap.get?_push_of_some _ z5
    refine wpAny_bind (wpAny_setField_rec z6 (by simp) fun u7 z7 s7 => ?_)
    replace z7 : ZipSt u7 z TI TO (rawInt u5.objs.size) f := z7
    refine wpAny_setField_rec z7 (by simp) fun u8 z8 s8 => ?_
    replace z8 : ZipSt u8 z TI TO (rawInt u5.objs.size) false := z8
    have up : ∀ c o, c ≠ z → u5.get? c = some o → u8.get? c = some o := fun c o c1 e => s8.extBut _ _ c1 (s7.extBut _ _ c1 (Heap.get?_push_of_some _ e))
    have t8 : IsPair u8 u5.objs.size x y := s8.extBut _ _ (Nat.ne_of_gt zl) (s7.extBut _ _ (Nat.ne_of_gt zl) (Heap.get?_push_size _ rfl))
    have n8 : u8.objs.size = u5.objs.size + 1 := by rw [s8.1, s7.1, Heap.size_push]
    rw [sz] at z8 t8 n8
    refine wpAny_pure ⟨_, rfl, wpAny_pure ?_⟩
    show Q (some (.ref u5.objs.size)) _
    rw [sz]
    exact hQ u8 _ _ z8 (.inr ⟨_, rfl⟩) ⟨_, _, up _ _ D.TOz p5⟩ (b1.on fun o e => up _ o D.i1z e) (b2.on fun o e => up _ o D.i2z e) t8 n8 fun c o c1 c2 c3 c4 e => up c o c1 (k5 c o c1 c2 c3 c4 e)
  case held =>
    simp only [Bool.false_eq_true, if_false]
    refine wpAny_bind ?_
    rw [← Array.forIn_toList]
    simp only [List.forIn_cons, List.forIn_nil]
    refine wpAny_bind (wpAny_bind (wpAny_holding ?_))
    show wpAny _ _ (Builtin.SmallTypes.nextOf (.ref i1) >>= _) _ _ _
    refine wpAny_bind (nextIn_item (s := { s with heap := u1 }) (h1.on fun o e => s1.extBut _ _ D.i1z e) (hl1.on s1.extBut D.l1z) hx fun u2 a2 s2 => wpAny_pure ?_)
    refine wpAny_pure ?_
    refine wpAny_bind (wpAny_bind (wpAny_holding ?_))
    show wpAny _ _ (Builtin.SmallTypes.nextOf (.ref i2) >>= _) _ _ _
    refine wpAny_bind (nextIn_item (s := { s with heap := u2 }) (h2.on fun o e => s2.extBut _ _ D.i12.symm (s1.extBut _ _ D.i2z e)) ((hl2.on s1.extBut D.l2z).on s2.extBut D.l2i1) hy fun u3 a3 s3 => wpAny_pure ?_)
    refine wpAny_pure (wpAny_pure ?_)
    show wpAny _ _ (newTuple [x, y] >>= _) _ _ _
    refine wpAny_bind (wpAny_newTuple ?_)
    have sz : u3.objs.size = s.heap.objs.size := by rw [s3.1, s2.1, s1.1]
    have z3 : ZipSt u3 z TI TO f0 true := s3.extBut _ _ D.i2z.symm (s2.extBut _ _ D.i1z.symm z1)
    have k3 : ∀ c o, c ≠ z → c ≠ TO → c ≠ i1 → c ≠ i2 → s.heap.get? c = some o → u3.get? c = some o := fun c o c1 _ c2 c3 e => s3.extBut _ _ c3 (s2.extBut _ _ c2 (s1.extBut _ _ c1 e))
    have b1 : ItAt t1 u3 i1 l1 (k1 + 1) := a2.on fun o e => s3.extBut _ _ D.i12 e
    refine wpAny_pure ⟨_, rfl, wpAny_pure ?_⟩
    show Q (some (.ref u3.objs.size)) _
    have hp : IsPair (u3.push { cls := .type "tuple", data := .seq #[x, y] }) u3.objs.size x y := Heap.get?_push_size _ rfl
    have n4 : (u3.push { cls := .type "tuple", data := .seq #[x, y] }).objs.size = u3.objs.size + 1 := Heap.size_push ..
    have pTO : IsPair u3 TO a b := s3.extBut _ _ D.TOi2 (s2.extBut _ _ D.TOi1 (s1.extBut _ _ D.TOz hTO))
    rw [sz] at hp n4 ⊢
    exact hQ _ _ _ (Heap.get?_push_of_some _ z3) g ⟨a, b, Heap.get?_push_of_some _ pTO⟩ (b1.on fun o e => Heap.get?_push_of_some _ e) (a3.on fun o e => Heap.get?_push_of_some _ e) hp n4 fun c o c1 c2 c3 c4 e => Heap.get?_push_of_some _ (k3 c o c1 c2 c3 c4 e)
/-- a zip that is through -/
theorem zipG_end {t1 t2 : Bool} {z TI TO i1 i2 l1 l2 : Addr} {f0 : Value} {f : Bool} {k1 k2 : Nat} {xs ys : Array Value} {a b : Value} {Q : Option Value → Shared → Prop} (hh : A.handled = none) (D : ZipApart z TI TO i1 i2 l1 l2)
    (hz : ZipSt s.heap z TI TO f0 f) (g : Gave f0) (hTI : IsPair s.heap TI (.ref i1) (.ref i2)) (hTO : IsPair s.heap TO a b)
    (h1 : ItAt t1 s.heap i1 l1 k1) (h2 : ItAt t2 s.heap i2 l2 k2) (hl1 : SeqIs t1 s.heap l1 xs) (hl2 : SeqIs t2 s.heap l2 ys) (hend : xs[k1]? = none ∨ ys[k2]? = none)
    (hQ : ∀ h', (∀ c o, c ≠ z → c ≠ TO → c ≠ i1 → c ≠ i2 → s.heap.get? c = some o → h'.get? c = some o) → Q none { s with heap := h' }) :
    wpAny (model prog w) A (pyNext (.ref z)) Q E s := by
  have hT : s.TypeIs (.ref z) "zip" := ⟨_, hz, rfl⟩
  have fin : ∀ (h' : Heap) (e : Addr), (∀ c o, c ≠ z → c ≠ TO → c ≠ i1 → c ≠ i2 → s.heap.get? c = some o → h'.get? c = some o) → (∃ o, h'.get? e = some o ∧ o.cls = .type "StopIteration") →
      wpAny (model prog w) A (isInstance (.ref e) (.type "StopIteration")) (fun v s' => v = true ∧ s' = { s with heap := h' }) E { s with heap := h' } := fun h' e _ he => by
    obtain ⟨o, ho, hc⟩ := he
    exact wpAny_isInstance (T := "StopIteration") (b := true) ⟨o, ho, hc⟩ isSubtype_stop ⟨rfl, rfl⟩
  unfold pyNext
  refine wpAny_bind (wpAny_attempt (wpAny_callSpecial?_slot (name := Str.ofString "__next__") hT F.slot_zip_next (wpAny_call_entry F.slot_zip_next hT F.entry_zip_next ?_ (F.args_zip_next_1 _))))
  show wpAny _ _ (field (.ref z) 2 >>= _) _ _ _
  refine wpAny_bind (wpAny_field hz rfl (x := .bool false) rfl ?_)
  show wpAny _ _ (field (.ref z) 3 >>= _) _ _ _
  refine wpAny_bind (wpAny_field hz rfl (x := .ref TI) rfl ?_)
  refine wpAny_bind (wpAny_seqItems hTI rfl ?_)
  refine wpAny_bind (gave_free (z := z) hz g ?free fun u1 z1 s1 => ?held)
  case free =>
    simp only [if_true]
    refine wpAny_bind (wpAny_rule ?_)
    refine wpAny_bind (wpAny_field hz rfl (x := .ref TO) rfl ?_)
    refine wpAny_bind (wpAny_setField_rec hz (by simp) fun u1 z1 s1 => ?_)
    replace z1 : ZipSt u1 z TI TO .ellipsis f := z1
    refine wpAny_bind ?_
    simp only [List.zipIdx_cons, List.zipIdx_nil, List.forIn_cons, List.forIn_nil]
    refine wpAny_bind (wpAny_bind (wpAny_onRaise ?_))
    show wpAny _ _ (Builtin.SmallTypes.nextOf (.ref i1) >>= _) _ _ _
    cases hx : xs[k1]? with
    | none =>
      refine wpAny_bind (nextIn_end hh (h1.on fun o e => s1.extBut _ _ D.i1z e) (hl1.on s1.extBut D.l1z) hx fun u2 e s2 he => ?_)
      obtain ⟨oe, hoe, hce⟩ := he
      have z2 : ZipSt u2 z TI TO .ellipsis f := s2 _ _ D.i1z.symm z1
      have hez : e ≠ z := fun x => by subst x; rw [z2] at hoe; cases hoe; simp at hce
      refine wpAny_setField_rec z2 (by simp) fun u3 _ s3 => ?_
      refine wpAny_bind (wpAny_isInstance (T := "StopIteration") (b := true) ⟨oe, s3.extBut _ _ hez hoe, hce⟩ isSubtype_stop ?_)
      exact wpAny_pure (hQ u3 fun c o c1 _ c3 _ x => s3.extBut _ _ c1 (s2 _ _ c3 (s1.extBut _ _ c1 x)))
    | some x =>
      have hy : ys[k2]? = none := by rcases hend with h | h; rw [hx] at h; cases h; exact h
      refine wpAny_bind (nextIn_item (h1.on fun o e => s1.extBut _ _ D.i1z e) (hl1.on s1.extBut D.l1z) hx fun u2 a2 s2 => wpAny_pure ?_)
      have p2 : IsPair u2 TO a b := s2.extBut _ _ D.TOi1 (s1.extBut _ _ D.TOz hTO)
      refine wpAny_bind (wpAny_seqItems p2 rfl ?_)
      refine wpAny_bind (wpAny_updateSeq_pair p2 fun u3 p3 s3 => ?_)
      refine wpAny_bind (wpAny_letGo (wpAny_pure ?_))
      refine wpAny_bind (wpAny_bind (wpAny_onRaise ?_))
      show wpAny _ _ (Builtin.SmallTypes.nextOf (.ref i2) >>= _) _ _ _
      refine wpAny_bind (nextIn_end hh (h2.on fun o e => s3.extBut _ _ D.TOi2.symm (s2.extBut _ _ D.i12.symm (s1.extBut _ _ D.i2z e)))
        (((hl2.on s1.extBut D.l2z).on s2.extBut D.l2i1).on s3.extBut D.l2TO) hy fun u4 e s4 he => ?_)
      obtain ⟨oe, hoe, hce⟩ := he
      have z4 : ZipSt u4 z TI TO .ellipsis f := s4 _ _ D.i2z.symm (s3.extBut _ _ D.TOz.symm (s2.extBut _ _ D.i1z.symm z1))
      have hez : e ≠ z := fun x => by subst x; rw [z4] at hoe; cases hoe; simp at hce
      refine wpAny_setField_rec z4 (by simp) fun u5 _ s5 => ?_
      refine wpAny_bind (wpAny_isInstance (T := "StopIteration") (b := true) ⟨oe, s5.extBut _ _ hez hoe, hce⟩ isSubtype_stop ?_)
      exact wpAny_pure (hQ u5 fun c o c1 c2 c3 c4 x => s5.extBut _ _ c1 (s4 _ _ c4 (s3.extBut _ _ c2 (s2.extBut _ _ c3 (s1.extBut _ _ c1 x)))))
  case held =>
    simp only [Bool.false_eq_true, if_false]
    refine wpAny_bind ?_
    rw [← Array.forIn_toList]
    simp only [List.forIn_cons, List.forIn_nil]
    refine wpAny_bind (wpAny_bind (wpAny_holding ?_))
    show wpAny _ _ (Builtin.SmallTypes.nextOf (.ref i1) >>= _) _ _ _
    cases hx : xs[k1]? with
    | none =>
      refine wpAny_bind (nextIn_end (s := { s with heap := u1 }) hh (h1.on fun o e => s1.extBut _ _ D.i1z e) (hl1.on s1.extBut D.l1z) hx fun u2 e s2 he => ?_)
      obtain ⟨oe, hoe, hce⟩ := he
      refine wpAny_bind (wpAny_isInstance (T := "StopIteration") (b := true) ⟨oe, hoe, hce⟩ isSubtype_stop ?_)
      exact wpAny_pure (hQ u2 fun c o c1 _ c3 _ x => s2 _ _ c3 (s1.extBut _ _ c1 x))
    | some x =>
      have hy : ys[k2]? = none := by rcases hend with h | h; rw [hx] at h; cases h; exact h
      refine wpAny_bind (nextIn_item (s := { s with heap := u1 }) (h1.on fun o e => s1.extBut _ _ D.i1z e) (hl1.on s1.extBut D.l1z) hx fun u2 a2 s2 => wpAny_pure ?_)
      refine wpAny_pure ?_
      refine wpAny_bind (wpAny_bind (wpAny_holding ?_))
      show wpAny _ _ (Builtin.SmallTypes.nextOf (.ref i2) >>= _) _ _ _
      refine wpAny_bind (nextIn_end (s := { s with heap := u2 }) hh (h2.on fun o e => s2.extBut _ _ D.i12.symm (s1.extBut _ _ D.i2z e)) ((hl2.on s1.extBut D.l2z).on s2.extBut D.l2i1) hy fun u3 e s3 he => ?_)
      obtain ⟨oe, hoe, hce⟩ := he
      refine wpAny_bind (wpAny_isInstance (T := "StopIteration") (b := true) ⟨oe, hoe, hce⟩ isSubtype_stop ?_)
      exact wpAny_pure (hQ u3 fun c o c1 _ c3 c4 x => s3 _ _ c4 (s2.extBut _ _ c3 (s1.extBut _ _ c1 x)))
/-- what is done with the tuple that it gave out ahead of a target -/
theorem goG {tg : Expr} {z TI TO T : Addr} {f0 : Value} {f : Bool} {Q : Unit → Shared → Prop} (hz : ZipSt s.heap z TI TO f0 f) (g : Gave f0)
    (hQ : ∀ h' f0', ZipSt h' z TI TO f0' f → Gave f0' → Heap.SameBut z s.heap h' → Q () { s with heap := h' }) : wpAny (model prog w) A (letOwnedTupleGo tg (.ref z) (.ref T)) Q E s := by
  have q0 : Q () s := hQ s.heap f0 hz g (Heap.SameBut.refl _ _)
  unfold letOwnedTupleGo
  cases tg <;> first
    | exact wpAny_pure q0
    | (refine wpAny_bind (wpAny_load hz ?_)
       show wpAny _ _ (if (["enumerate", "zip", "dict_itemiterator", "dict_reverseitemiterator", "odict_iterator", "itertools.zip_longest", "itertools.pairwise"].contains "zip" && (#[f0, .bool f, .bool false, .ref TI, .ref TO] : Array Value)[0]? == some (rawInt T)) = true then _ else _) Q E s
       split
       · refine wpAny_bind (wpAny_rule ?_)
         show wpAny _ _ (setField (.ref z) 0 .none) Q E s
         exact wpAny_setField_rec hz (by simp) fun h' z' s' => hQ h' .none z' (.inl rfl) s'
       · exact wpAny_pure q0)
abbrev zG1 (t : Bool) (h : Heap) (l1 : Addr) : Heap := h.push (itObj t l1)
abbrev zG2 (t1 t2 : Bool) (h : Heap) (l1 l2 : Addr) : Heap := (zG1 t1 h l1).push (itObj t2 l2)
abbrev zG3 (t1 t2 : Bool) (h : Heap) (l1 l2 : Addr) : Heap := (zG2 t1 t2 h l1 l2).push { cls := .type "tuple", data := .seq #[.ref h.objs.size, .ref (zG1 t1 h l1).objs.size] }
abbrev zG4 (t1 t2 : Bool) (h : Heap) (l1 l2 : Addr) : Heap := (zG3 t1 t2 h l1 l2).push { cls := .type "tuple", data := .seq #[.none, .none] }
abbrev zG5 (t1 t2 : Bool) (h : Heap) (l1 l2 : Addr) : Heap := (zG4 t1 t2 h l1 l2).push { cls := .type "zip", data := .fields #[.none, .bool false, .bool false, .ref (zG2 t1 t2 h l1 l2).objs.size, .ref (zG3 t1 t2 h l1 l2).objs.size] }
theorem iterG {t : Bool} {l : Addr} {xs : Array Value} {Q : Value → Shared → Prop} (hl : SeqIs t s.heap l xs) (q : Q (.ref s.heap.objs.size) { s with heap := s.heap.push (itObj t l) }) : wpAny (model prog w) A (pyIter (.ref l)) Q E s := by
  cases t
  · exact wpAny_pyIter_list hl q
  · exact wpAny_pyIter_tuple hl q
end
theorem meets_zipG (t1 t2 : Bool) (l1 l2 : Addr) (xs ys : Array Value) :
    Meets (Builtin.«zip.__new__» ⟨[.type "zip", .ref l1, .ref l2], []⟩) (fun _ R s => SeqIs t1 s.heap l1 xs ∧ SeqIs t2 s.heap l2 ys ∧
      R (.ok (.ret (.ref (zG4 t1 t2 s.heap l1 l2).objs.size))) { s with heap := zG5 t1 t2 s.heap l1 l2 }) :=
  .of_wp fun prog w A R s h => by
    obtain ⟨hp, g, d, tk, os⟩ := s
    obtain ⟨hl1, hl2, h⟩ := h
    have hsub := sub_zip
    have q1 : SeqIs t1 (Shared.heap ⟨hp, g, d, tk, os⟩) l1 xs := hl1
    have q2 : SeqIs t2 (Shared.heap ⟨hp.push (itObj t1 l1), g, d, tk, os⟩) l2 ys := SeqIs.push hl2 _
    wp_walk using iterG q1, iterG q2
    exact ⟨_, rfl, h⟩
theorem call_zipG {prog : Program} {w : World} {A : Around} {E : Value → Shared → Prop} {s : Shared} {t1 t2 : Bool} {l1 l2 : Addr} {xs ys : Array Value} {Q : Value → Shared → Prop} (hl1 : SeqIs t1 s.heap l1 xs) (hl2 : SeqIs t2 s.heap l2 ys)
    (h : ∀ h', ZipSt h' (s.heap.objs.size + 4) (s.heap.objs.size + 2) (s.heap.objs.size + 3) .none false → IsPair h' (s.heap.objs.size + 2) (.ref s.heap.objs.size) (.ref (s.heap.objs.size + 1)) →
      IsPair h' (s.heap.objs.size + 3) .none .none → ItAt t1 h' s.heap.objs.size l1 0 → ItAt t2 h' (s.heap.objs.size + 1) l2 0 →
      (∀ c o, s.heap.get? c = some o → h'.get? c = some o) → Q (.ref (s.heap.objs.size + 4)) { s with heap := h' }) :
    wpAny (model prog w) A (call (.type "zip") [.ref l1, .ref l2]) Q E s := by
  refine callType_new F.called_zip (by decide) (F.typeCall_zip_2 _ _) (F.newCall_zip_2 _ _) (fun obj => F.args_object_init_3 obj _ _) F.entry_zip_new (meets_zipG t1 t2 l1 l2 xs ys) ⟨hl1, hl2, ?_⟩
  have z1 : (zG1 t1 s.heap l1).objs.size = s.heap.objs.size + 1 := Heap.size_push ..
  have z2 : (zG2 t1 t2 s.heap l1 l2).objs.size = s.heap.objs.size + 2 := by rw [Heap.size_push, z1]
  have z3 : (zG3 t1 t2 s.heap l1 l2).objs.size = s.heap.objs.size + 3 := by rw [Heap.size_push, z2]
  have z4 : (zG4 t1 t2 s.heap l1 l2).objs.size = s.heap.objs.size + 4 := by rw [Heap.size_push, z3]
  have g5 : (zG5 t1 t2 s.heap l1 l2).get? (zG4 t1 t2 s.heap l1 l2).objs.size = some _ := Heap.get?_push_size _ rfl
  have g4 : (zG5 t1 t2 s.heap l1 l2).get? (zG3 t1 t2 s.heap l1 l2).objs.size = some _ := Heap.get?_push_of_some _ (Heap.get?_push_size _ rfl)
  have g3 : (zG5 t1 t2 s.heap l1 l2).get? (zG2 t1 t2 s.heap l1 l2).objs.size = some _ := Heap.get?_push_of_some _ (Heap.get?_push_of_some _ (Heap.get?_push_size _ rfl))
  have g2 : (zG5 t1 t2 s.heap l1 l2).get? (zG1 t1 s.heap l1).objs.size = some (itObj t2 l2) := Heap.get?_push_of_some _ (Heap.get?_push_of_some _ (Heap.get?_push_of_some _ (Heap.get?_push_size _ (by cases t2 <;> rfl))))
  have g1 : (zG5 t1 t2 s.heap l1 l2).get? s.heap.objs.size = some (itObj t1 l1) := Heap.get?_push_of_some _ (Heap.get?_push_of_some _ (Heap.get?_push_of_some _ (Heap.get?_push_of_some _ (Heap.get?_push_size _ (by cases t1 <;> rfl)))))
  show _ ∧ _
  rw [z2, z3, z4] at g5
  rw [z1, z2] at g3
  rw [z3] at g4
  rw [z1] at g2
  rw [z4]
  exact ⟨⟨_, g5, rfl⟩, h _ g5 g3 g4 (itAt_new t1 g1) (itAt_new t2 g2) fun c o x =>
    Heap.get?_push_of_some _ (Heap.get?_push_of_some _ (Heap.get?_push_of_some _ (Heap.get?_push_of_some _ (Heap.get?_push_of_some _ x))))⟩
theorem Sq.at {X : Cx} {pins : List (Addr × Obj)} {σ : L2.St} {H : Hp} {s : Shared} {t : Bool} {a : Addr} {xs : List V} (I : Inv X pins σ H s) (h : Sq t X.K H a xs) : ∃ its : List Value, Vals xs its ∧ SeqIs t s.heap a its.toArray := by
  cases t
  · obtain ⟨its, r, p, _⟩ := I.list h
    exact ⟨its, r, p.isList⟩
  · obtain ⟨its, r, p, _⟩ := I.tuple h
    exact ⟨its, r, p⟩
theorem Sq.inj {X : Cx} {pins : List (Addr × Obj)} {σ : L2.St} {H : Hp} {s : Shared} {t : Bool} {a : Addr} {xs ys : List V} (I : Inv X pins σ H s) (h : Sq t X.K H a xs) (h' : Sq t X.K H a ys) : xs = ys := by
  cases t
  · exact I.list_inj h h'
  · exact I.tuple_inj h h'
/-- the rows at a and b as they stand at each turn, the items in new pairs -/
def ItzG (K : PySem.W.Frag) (t1 t2 : Bool) (a b : Addr) : It :=
  ⟨fun i H => ∃ (xs ys : List V) (x y : V), Sq t1 K H a xs ∧ Sq t2 K H b ys ∧ xs[i]? = some x ∧ ys[i]? = some y,
    fun i H v H' => ∃ T x y, v = .ref T ∧ H T = none ∧ H' = upd H T (.tup [x, y]) ∧ (∀ xs, Sq t1 K H a xs → xs[i]? = some x) ∧ ∀ ys, Sq t2 K H b ys → ys[i]? = some y,
    fun i H => ∃ xs ys : List V, Sq t1 K H a xs ∧ Sq t2 K H b ys ∧ (xs.length ≤ i ∨ ys.length ≤ i)⟩
theorem turn_zipG {P : Program} {w : World} {K : PySem.W.Frag} {tg : Expr} {t1 t2 : Bool} {a b z TI TO i1 i2 : Addr} (D : ZipApart z TI TO i1 i2 a b) :
    Turn P w K tg (ItzG K t1 t2 a b) [z, TI, TO, i1, i2] z (fun i h => (∃ f0 f, ZipSt h z TI TO f0 f ∧ Gave f0) ∧ IsPair h TI (.ref i1) (.ref i2) ∧ (∃ x y, IsPair h TO x y) ∧ ItAt t1 h i1 a i ∧ ItAt t2 h i2 b i) where
  mem := by simp
  obj := fun i h st c hc => by
    obtain ⟨⟨f0, f, hz, _⟩, hTI, ⟨x, y, hTO⟩, h1, h2⟩ := st
    obtain ⟨o1, fs1, e1, d1⟩ := h1.get
    obtain ⟨o2, fs2, e2, d2⟩ := h2.get
    have e' : c = z ∨ c = TI ∨ c = TO ∨ c = i1 ∨ c = i2 := by simpa using hc
    rcases e' with q | q | q | q | q
    · rw [q]; exact ⟨_, hz, fun v q => nomatch q⟩
    · rw [q]; exact ⟨_, hTI, fun v q => nomatch q⟩
    · rw [q]; exact ⟨_, hTO, fun v q => nomatch q⟩
    · rw [q]; exact ⟨o1, e1, fun v q => by rw [d1] at q; cases q⟩
    · rw [q]; exact ⟨o2, e2, fun v q => by rw [d2] at q; cases q⟩
  keep := fun i h h' st k => by
    obtain ⟨⟨f0, f, hz, g⟩, hTI, ⟨x, y, hTO⟩, h1, h2⟩ := st
    exact ⟨⟨f0, f, k z (by simp) _ hz, g⟩, k TI (by simp) _ hTI, ⟨x, y, k TO (by simp) _ hTO⟩, h1.on fun o q => k i1 (by simp) o q, h2.on fun o q => k i2 (by simp) o q⟩
  item := by
    intro X hP hw hK hc i pins s σ H E I hf st hg
    subst hP hw hK
    obtain ⟨⟨f0, f, hz, g⟩, hTI, ⟨x0, y0, hTO⟩, h1, h2⟩ := st
    obtain ⟨xs, ys, x, y, hqx, hqy, hx, hy⟩ := hg
    obtain ⟨its, rv, p⟩ := hqx.at I
    obtain ⟨its2, rv2, p2⟩ := hqy.at I
    obtain ⟨u, hu, ru⟩ := rv.get hx
    obtain ⟨u2, hu2, ru2⟩ := rv2.get hy
    have hzl : z < s.heap.objs.size := Heap.lt_size hz
    refine zipG_item D hz g hTI hTO h1 h2 p p2 (x := u) (y := u2) (by simpa using hu) (by simpa using hu2) fun h' f0' f' z' g' TO' h1' h2' hT hsz hk => ?_
    refine ⟨_, rfl, goG (s := { s with heap := h' }) z' g' fun h'' f0'' z'' g'' sb => ?_⟩
    have hT2 : h''.get? s.heap.objs.size = some { cls := .type "tuple", data := .seq #[u, u2] } := (sb.2 _ (Nat.ne_of_gt hzl)).trans hT
    have new : ObjOk X.prog X.w (upd H s.heap.objs.size (.tup [x, y])) h'' s.heap.objs.size (.tup [x, y]) :=
      ⟨by show 2 ≤ sizeLine; decide, [u, u2], .cons ru (.cons ru2 .nil), ⟨_, hT2, rfl, _, rfl⟩⟩
    have I1 : Inv X pins σ (upd H s.heap.objs.size (.tup [x, y])) { s with heap := h'' } :=
      I.turnedNew (t' := s.toks) (ch := [z, TI, TO, i1, i2]) (fun c o hb q => (sb.2 c (fun q' => hb (by simp [q']))).trans (hk c o (fun q' => hb (by simp [q'])) (fun q' => hb (by simp [q'])) (fun q' => hb (by simp [q'])) (fun q' => hb (by simp [q'])) q)) hf (Nat.le_refl _) new
    have TI' : IsPair h' TI (.ref i1) (.ref i2) := hk _ _ D.TIz D.TITO D.TIi1 D.TIi2 hTI
    obtain ⟨x1, y1, TO'⟩ := TO'
    refine ⟨.ref s.heap.objs.size, _, I1, rfl, ⟨_, x, y, rfl, I.hok.fresh (Nat.le_refl _), rfl, fun l hl => by rw [hl.inj I hqx]; exact hx, fun l hl => by rw [hl.inj I hqy]; exact hy⟩, ⟨⟨_, _, z'', g''⟩, ?_, ⟨x1, y1, ?_⟩, ?_, ?_⟩, fun c hcm => ?_⟩
    · exact (sb.2 _ D.TIz).trans TI'
    · exact (sb.2 _ D.TOz).trans TO'
    · exact h1'.on fun o q => (sb.2 _ D.i1z).trans q
    · exact h2'.on fun o q => (sb.2 _ D.i2z).trans q
    · have hlt : c < s.heap.objs.size := by
        obtain ⟨o1, _, e1, _⟩ := h1.get
        obtain ⟨o2, _, e2, _⟩ := h2.get
        have e' : c = z ∨ c = TI ∨ c = TO ∨ c = i1 ∨ c = i2 := by simpa using hcm
        rcases e' with q | q | q | q | q
        · rw [q]; exact hzl
        · rw [q]; exact Heap.lt_size hTI
        · rw [q]; exact Heap.lt_size hTO
        · rw [q]; exact Heap.lt_size e1
        · rw [q]; exact Heap.lt_size e2
      rw [upd_ne (Nat.ne_of_lt hlt)]
      exact (hf c hcm).1
  done := by
    intro X hP hw hK hc i pins s σ H E I hf st hg
    subst hP hw hK
    obtain ⟨⟨f0, f, hz, g⟩, hTI, ⟨x0, y0, hTO⟩, h1, h2⟩ := st
    obtain ⟨xs, ys, hqx, hqy, hend⟩ := hg
    obtain ⟨its, rv, p⟩ := hqx.at I
    obtain ⟨its2, rv2, p2⟩ := hqy.at I
    have l1 := rv.length
    have l2 := rv2.length
    have he : its.toArray[i]? = none ∨ its2.toArray[i]? = none := by
      rcases hend with q | q
      · exact .inl (by simp; omega)
      · exact .inr (by simp; omega)
    exact zipG_end (I.ok.hd hc) D hz g hTI hTO h1 h2 p p2 he fun h' hk => ⟨rfl, I.turnedL (t' := s.toks) (ch := [z, TI, TO, i1, i2]) (fun c o hb q =>
      hk c o (fun q' => hb (by simp [q'])) (fun q' => hb (by simp [q'])) (fun q' => hb (by simp [q'])) (fun q' => hb (by simp [q'])) q) hf⟩
  self := fun A i s Q E st h => by
    obtain ⟨⟨f0, f, hz, g⟩, _⟩ := st
    have hT : s.TypeIs (.ref z) "zip" := ⟨_, hz, rfl⟩
    refine wpAny_pyIter_slot hT F.slot_zip_iter (wpAny_call_entry F.slot_zip_iter hT F.entry_zip_iter ?_ (F.args_zip_iter_1 _))
    show wpAny _ _ (ret (.ref z)) _ _ s
    exact wpAny_pure ⟨_, rfl, "zip", _, hT, F.slot_zip_next.lookup, h⟩
def iZipG (K : PySem.W.Frag) (ta : TA) : TI := fun σ H R => ta σ H fun vs H1 => ∃ (t1 t2 : Bool) (a b : Addr) (xs ys : List V), vs = [.ref a, .ref b] ∧ Sq t1 K H1 a xs ∧ Sq t2 K H1 b ys ∧ R (ItzG K t1 t2 a b) H1
theorem pi_zipG {X : Cx} {tg e e2 : Expr} {ta : TA} {p pos : Pos} (hg : Gl X "zip") (hm : X.mg "zip" = none) (ha : PA X [e, e2] ta)
    (hs : starEach [e, e2] X.env = (false, eval e X.env) :: starEach [e2] X.env := by rfl) (hpl : (backTo pos (starEach [e2] X.env)).any (·.1) = false := by rfl) :
    PI X tg (.Call (.Name "zip" p) [e, e2] [] pos) (iZipG X.K ta) := by
  refine ⟨fun pins s σ H R I h => ?_⟩
  refine Call_ (ld_blt I hg hm PyProof.Rows.boot_zip (PyProof.Rows.callWith_type1 (thn (ha.run pos pins s σ H _ I h) fun us s1 ⟨vs, H1, I1, r1, q1⟩ => ?_) hs hpl))
  obtain ⟨t1, t2, a, b, xs, ys, ex, hqx, hqy, q⟩ := q1
  subst ex
  cases r1 with
  | cons r rr =>
    cases rr with
    | cons r' rr =>
      cases rr
      cases r
      cases r'
      obtain ⟨its, rv, p1⟩ := hqx.at I1
      obtain ⟨its2, rv2, p2⟩ := hqy.at I1
      refine call_zipG p1 p2 fun h' hz hTI hTO h1 h2 hk => ?_
      have hT : Shared.TypeIs { s1 with heap := h' } (.ref (s1.heap.objs.size + 4)) "zip" := ⟨_, hz, rfl⟩
      refine wpAny_pyIter_slot hT F.slot_zip_iter (wpAny_call_entry F.slot_zip_iter hT F.entry_zip_iter ?_ (F.args_zip_iter_1 _))
      show wpAny _ _ (ret (.ref _)) _ _ _
      refine wpAny_pure ⟨_, rfl, "zip", _, hT, F.slot_zip_next.lookup, ?_⟩
      have I2 : Inv X pins σ H1 { s1 with heap := h' } := I1.kept (t' := s1.toks) hk
      refine ⟨s1.heap.objs.size + 4, [s1.heap.objs.size + 4, s1.heap.objs.size + 2, s1.heap.objs.size + 3, s1.heap.objs.size, s1.heap.objs.size + 1], _, _, H1, rfl, I2, turn_zipG (PySem.W.ktu_apart s1.heap.objs.size a b p1.lt p2.lt), ⟨⟨_, _, hz, .inl rfl⟩, hTI, ⟨_, _, hTO⟩, h1, h2⟩, fun c hcm => ?_, q⟩
      have e' : c = s1.heap.objs.size + 4 ∨ c = s1.heap.objs.size + 2 ∨ c = s1.heap.objs.size + 3 ∨ c = s1.heap.objs.size ∨ c = s1.heap.objs.size + 1 := by simpa using hcm
      have hle : s1.heap.objs.size ≤ c := by
        rcases e' with z | z | z | z | z <;> (rw [z]; omega)
      exact I1.fpOk hle (I1.hok.fresh hle)
theorem walk_zipG {K : PySem.W.Frag} {t1 t2 : Bool} {a b : Addr} {xs ys : List V} {n : Nat} (hn : n = min xs.length ys.length) : Walk (ItzG K t1 t2 a b) n (fun H => Sq t1 K H a xs ∧ Sq t2 K H b ys) (YPair (fun i => xs[i]?) (fun i => ys[i]?)) := by
  subst hn
  refine ⟨fun i _ hi q => ?_, fun _ q => ⟨xs, ys, q.1, q.2, by omega⟩, fun i H v H' _ q y => ?_⟩
  · have h1 : i < xs.length := by omega
    have h2 : i < ys.length := by omega
    exact ⟨xs, ys, xs[i], ys[i], q.1, q.2, by simp [h1], by simp [h2]⟩
  · obtain ⟨T, x, z, h1, h2, h3, h4, h5⟩ := y
    exact ⟨T, x, z, h1, h2, h3, h4 xs q.1, h5 ys q.2⟩
end ZG
namespace EnT
open PySem PySem.Spec PyProof.Rows L2
/-! ### enumerate over a tuple -/
theorem meets_enumT (l : Addr) (items : Array Value) :
    Meets (Builtin.«enumerate.__new__» ⟨[.type "enumerate", .ref l], []⟩) (fun _ R s => s.heap.IsTuple l items ∧
      R (.ok (.ret (.ref (s.heap.push { cls := .type "tuple_iterator", data := .fields #[.ref l, .int 0 0] }).objs.size)))
        { s with heap := (s.heap.push { cls := .type "tuple_iterator", data := .fields #[.ref l, .int 0 0] }).push { cls := .type "enumerate", data := .fields #[.none, .bool false, .ref s.heap.objs.size, rawInt 0, .none, .none] } }) :=
  .of_wp fun prog w A R s h => by
    obtain ⟨hp, g, d, tk, os⟩ := s; obtain ⟨hl, h⟩ := h
    have hsub := sub_enumerate
    have q1 : ∀ {A' : Around} {E : Value → Shared → Prop} {Q : Value → Shared → Prop}, Q (.ref hp.objs.size) ⟨hp.push { cls := .type "tuple_iterator", data := .fields #[.ref l, .int 0 0] }, g, d, tk, os⟩ → wpAny (model prog w) A' (pyIter (.ref l)) Q E ⟨hp, g, d, tk, os⟩ :=
      fun q => wpAny_pyIter_tuple (s := ⟨hp, g, d, tk, os⟩) hl q
    wp_walk using q1
    refine wpAny_stack_any fun st => wpAny_pure ?_
    split
    · rename_i c _ _ _ _ _
      cases (c == Value.type "enumerate")
      · wp_walk using q1
        exact ⟨_, rfl, h⟩
      · wp_walk using q1
        exact ⟨_, rfl, h⟩
    · wp_walk using q1
      exact ⟨_, rfl, h⟩
theorem call_enumT {prog : Program} {w : World} {A : Around} {E : Value → Shared → Prop} {s : Shared} {l : Addr} {items : Array Value} {Q : Value → Shared → Prop} (hL : s.heap.IsTuple l items)
    (h : ∀ h', IsEnum h' (s.heap.objs.size + 1) s.heap.objs.size 0 .none → h'.IsTupleIter s.heap.objs.size l 0 → h'.objs.size = s.heap.objs.size + 2 →
      (∀ b o, s.heap.get? b = some o → h'.get? b = some o) → Q (.ref (s.heap.objs.size + 1)) { s with heap := h' }) :
    wpAny (model prog w) A (call (.type "enumerate") [.ref l]) Q E s := by
  refine callType_new F.called_enumerate (by decide) (F.typeCall_enumerate_1 _) (F.newCall_enumerate_1 _) (fun obj => F.args_object_init_2 obj _) F.entry_enumerate_new
    (meets_enumT l items) ⟨hL, ?_⟩
  have hz : (s.heap.push { cls := .type "tuple_iterator", data := .fields #[.ref l, .int 0 0] }).objs.size = s.heap.objs.size + 1 := Heap.size_push ..
  show _ ∧ _
  rw [hz]
  have he : IsEnum ((s.heap.push { cls := .type "tuple_iterator", data := .fields #[.ref l, .int 0 0] }).push
      { cls := .type "enumerate", data := .fields #[.none, .bool false, .ref s.heap.objs.size, rawInt 0, .none, .none] }) (s.heap.objs.size + 1) s.heap.objs.size 0 .none := by
    have := Heap.get?_push_size (s.heap.push { cls := .type "tuple_iterator", data := .fields #[.ref l, .int 0 0] })
      (o := { cls := .type "enumerate", data := .fields #[.none, .bool false, .ref s.heap.objs.size, rawInt 0, .none, .none] }) rfl
    rw [hz] at this; exact this
  refine ⟨⟨_, he, rfl⟩, h _ he ⟨_, Heap.get?_push_of_some _ (Heap.get?_push_size _ rfl), rfl, rfl⟩ (by rw [Heap.size_push, hz]) fun b o x => Heap.get?_push_of_some _ (Heap.get?_push_of_some _ x)⟩
/-- the tuple at a as it stands at each turn, each item in a new pair -/
def IteT (K : PySem.W.Frag) (a : Addr) : It :=
  ⟨fun i H => ∃ (xs : List V) (x : V), SqT K H a xs ∧ xs[i]? = some x, fun i H v H' => ∃ T x, v = .ref T ∧ H T = none ∧ H' = upd H T (.tup [.int (i : Nat), x]) ∧ ∀ xs, SqT K H a xs → xs[i]? = some x, fun i H => ∃ xs : List V, SqT K H a xs ∧ xs.length ≤ i⟩
theorem enumT_end {prog : Program} {w : World} {A : Around} {E : Value → Shared → Prop} {s : Shared} {e it t : Addr} {i : Nat} {items : Array Value} {old : Value} {Q : Option Value → Shared → Prop} (hh : A.handled = none)
    (he : IsEnum s.heap e it i old) (hit : s.heap.IsTupleIter it t i) (ht : s.heap.IsTuple t items) (hx : items[i]? = none)
    (hQ : ∀ h', Heap.ExtBut it s.heap h' → Q none { s with heap := h' }) : wpAny (model prog w) A (pyNext (.ref e)) Q E s := by
  have hT : s.TypeIs (.ref e) "enumerate" := ⟨_, he, rfl⟩
  unfold pyNext
  refine wpAny_bind (wpAny_attempt (wpAny_callSpecial?_slot (name := Str.ofString "__next__") hT F.slot_enumerate_next
    (wpAny_call_entry F.slot_enumerate_next hT F.entry_enumerate_next ?_ (F.args_enumerate_next_1 _))))
  show wpAny _ _ (field (.ref e) 2 >>= _) _ _ _
  refine wpAny_bind (wpAny_field he rfl (x := .ref it) rfl ?_)
  refine wpAny_bind (wpAny_nextOf_tuple_end (A := A.in1) hh hit ht hx fun h' x he' hx' => ?_)
  obtain ⟨o, ho, hc⟩ := hx'
  refine wpAny_bind (wpAny_isInstance (T := "StopIteration") (b := true) ⟨o, ho, hc⟩ isSubtype_stop ?_)
  exact wpAny_pure (hQ _ he')
theorem turn_enumT {P : Program} {w : World} {K : PySem.W.Frag} {elts : List Expr} {kk : Nat} {tpos : Pos} (a e it : Addr) :
    Turn P w K (.Tuple elts kk tpos) (IteT K a) [e, it] e (fun i h => (∃ old, IsEnum h e it ((i : Nat) : Int) old) ∧ h.IsTupleIter it a i ∧ e ≠ it) where
  mem := by simp
  obj := fun i h st b hb => by
    obtain ⟨⟨old, he⟩, ⟨o, ho, hc, hd⟩, _⟩ := st
    have e' : b = e ∨ b = it := by simpa using hb
    rcases e' with z | z
    · rw [z]; exact ⟨_, he, fun v q => nomatch q⟩
    · rw [z]; exact ⟨o, ho, fun v q => by rw [hd] at q; cases q⟩
  keep := fun i h h' st k => let ⟨⟨old, he⟩, hi, hne⟩ := st; ⟨⟨old, k e (by simp) _ he⟩, hi.at fun o q => k it (by simp) o q, hne⟩
  item := by
    intro X hP hw hK hc i pins s σ H E I hf st hg
    subst hP hw hK
    obtain ⟨⟨old, he⟩, hit, hne⟩ := st
    obtain ⟨xs, x, hq, hx⟩ := hg
    obtain ⟨its, rv, p, hz⟩ := I.tuple hq
    obtain ⟨u, hu, ru⟩ := rv.get hx
    have hel : e < s.heap.objs.size := Heap.lt_size he
    have hil : it < s.heap.objs.size := by obtain ⟨_, q, _⟩ := hit; exact Heap.lt_size q
    have hT0 : s.heap.IsTuple a its.toArray := p
    have nae : e ≠ a := fun z => by
      obtain ⟨o, ho, hcl, _⟩ := hT0
      rw [← z, he] at ho
      obtain rfl := Option.some.inj ho
      exact absurd (show Value.type "enumerate" = Value.type "tuple" from hcl) (by decide)
    have nai : a ≠ it := fun z => by
      obtain ⟨o, ho, hcl, _⟩ := hT0
      obtain ⟨o2, ho2, hcl2, _⟩ := hit
      rw [z, ho2] at ho
      obtain rfl := Option.some.inj ho
      rw [hcl2] at hcl
      exact absurd (show Value.type "tuple_iterator" = Value.type "tuple" from hcl) (by decide)
    refine wpAny_pyNext_enum_itemD (i := i) (Draws.tuple (A := X.A.in1) (I.ok.hd hc) it a nai its.toArray) he ⟨hit, hT0⟩ (by
      have := (List.getElem?_eq_some_iff.mp hu).1
      simpa using this) hne (by simp [hne, nae]) fun y h' tk hy ho hst' hT hsz hk => ?_
    have ey : y = u := by
      have hy' : its[i]? = some y := by simpa using hy
      rw [hu] at hy'
      exact (Option.some.inj hy').symm
    subst ey
    refine ⟨_, rfl, wpAny_letOwnedTupleGo_enum (s := { s with heap := h', toks := tk + 1 }) ho fun h'' he' sb => ?_⟩
    have hT2 : h''.get? s.heap.objs.size = some { cls := .type "tuple", data := .seq #[.int i tk, y] } := (sb.2 _ (Nat.ne_of_gt hel)).trans hT
    have new : ObjOk X.prog X.w (upd H s.heap.objs.size (.tup [.int (i : Nat), x])) h'' s.heap.objs.size (.tup [.int (i : Nat), x]) :=
      ⟨by show 2 ≤ sizeLine; decide, [.int i tk, y], .cons ⟨_, rfl⟩ (.cons ru .nil), ⟨_, hT2, rfl, _, rfl⟩⟩
    have I1 : Inv X pins σ (upd H s.heap.objs.size (.tup [.int (i : Nat), x])) { s with heap := h'', toks := tk + 1 } :=
      I.turnedNew (ch := [e, it]) (fun b ob hb q => (sb.2 b (fun z => hb (by simp [z]))).trans (hk b ob (fun z => hb (by simp [z])) (fun z => hb (by simp [z])) q)) hf (Nat.le_refl _) new
    refine ⟨.ref s.heap.objs.size, _, I1, rfl, ⟨_, x, rfl, I.hok.fresh (Nat.le_refl _), rfl, fun ys hy => by rw [I.tuple_inj hy hq]; exact hx⟩, ⟨⟨y, ?_⟩, hst'.1.at fun o q => (sb.2 it (Ne.symm hne)).trans q, hne⟩, fun b hb => ?_⟩
    · have e1 : ((i + 1 : Nat) : Int) = (i : Int) + 1 := by omega
      rw [e1]; exact he'
    · have hb' : b < s.heap.objs.size := by
        have e' : b = e ∨ b = it := by simpa using hb
        rcases e' with z | z
        · rw [z]; exact hel
        · rw [z]; exact hil
      rw [upd_ne (Nat.ne_of_lt hb')]
      exact (hf b hb).1
  done := by
    intro X hP hw hK hc i pins s σ H E I hf st hg
    subst hP hw hK
    obtain ⟨⟨old, he⟩, hit, hne⟩ := st
    obtain ⟨xs, hq, hx⟩ := hg
    obtain ⟨its, rv, p, hz⟩ := I.tuple hq
    obtain ⟨f0, f1, f2, f3, f4, f5⟩ := hf it (by simp)
    have hl := rv.length
    exact enumT_end (I.ok.hd hc) he hit p (by simp; omega) fun h' eb => ⟨rfl, I.turned (t' := s.toks) (fun b o hb q => eb b o hb q) f0 f1 f3 f4 f5⟩
  self := fun A i s Q E st h => let ⟨⟨_, he⟩, _⟩ := st; wpAny_pyIter_enum he h
def iEnumT (K : PySem.W.Frag) (ta : TA) : TI := fun σ H R => ta σ H fun vs H1 => ∃ a xs, vs = [.ref a] ∧ SqT K H1 a xs ∧ R (IteT K a) H1
theorem pi_enumT {X : Cx} {e : Expr} {ta : TA} {p pos tpos : Pos} {elts : List Expr} {kk : Nat} (hg : Gl X "enumerate") (hm : X.mg "enumerate" = none) (ha : PA X [e] ta) (hs : starEach [e] X.env = [(false, eval e X.env)] := by rfl) :
    PI X (.Tuple elts kk tpos) (.Call (.Name "enumerate" p) [e] [] pos) (iEnumT X.K ta) := by
  refine ⟨fun pins s σ H R I h => ?_⟩
  refine Call_ (ld_blt I hg hm boot_enumerate (PyProof.Rows.callWith_type1 (thn (ha.run pos pins s σ H _ I h) fun us s1 ⟨vs, H1, I1, r1, q1⟩ => ?_) hs rfl))
  obtain ⟨a, xs, ex, hq, q⟩ := q1
  subst ex
  cases r1 with
  | cons r rr =>
    cases rr
    cases r
    obtain ⟨its, rv, p', hz⟩ := I1.tuple hq
    refine call_enumT (show s1.heap.IsTuple a its.toArray from p') fun h' he hit hsz hk => wpAny_pyIter_enum he ?_
    have I2 : Inv X pins σ H1 { s1 with heap := h' } := I1.kept (t' := s1.toks) hk
    refine ⟨s1.heap.objs.size + 1, [s1.heap.objs.size + 1, s1.heap.objs.size], _, _, H1, rfl, I2, turn_enumT a (s1.heap.objs.size + 1) s1.heap.objs.size, ⟨⟨.none, he⟩, hit, Nat.succ_ne_self _⟩, fun b hb => ?_, q⟩
    have e' : b = s1.heap.objs.size + 1 ∨ b = s1.heap.objs.size := by simpa using hb
    have hle : s1.heap.objs.size ≤ b := by
      rcases e' with z | z
      · rw [z]; exact Nat.le_add_right _ _
      · rw [z]; exact Nat.le_refl _
    exact I1.fpOk hle (I1.hok.fresh hle)
/-- a loop over enumerate of a tuple -/
theorem for_enumT {K : PySem.W.Frag} {a : Addr} {xs : List V} {g : TG} {tb : TS} {D : Ends} {σ : L2.St} {H : Hp} (Pv : Nat → L2.St → Hp → Prop) (h0 : Pv 0 σ H) (hq : ∀ i σ H, Pv i σ H → SqT K H a xs)
    (hs : ∀ (i : Nat) (x : V) (T : Addr) (σ : L2.St) (H : Hp), xs[i]? = some x → Pv i σ H → H T = none → g (.ref T) σ (upd H T (.tup [.int (i : Nat), x])) fun σ2 H2 => tb { D with nx := Pv (i + 1), ct := Pv (i + 1), bk := D.nx } σ2 H2) (hd : ∀ σ H, Pv xs.length σ H → D.nx σ H) :
    ∃ W : Nat → Nat → L2.St → Hp → Prop, (∃ m, W 0 m σ H) ∧ ∀ i m σ H, W i m σ H →
      ((IteT K a).stop i H ∧ D.nx σ H) ∨ ((IteT K a).go i H ∧ ∃ N : L2.St → Hp → Prop, (∀ σ' H', N σ' H' → ∃ m', m' < m ∧ W (i + 1) m' σ' H') ∧ ∀ v H', (IteT K a).yld i H v H' → g v σ H' fun σ2 H2 => tb { D with nx := N, ct := N, bk := D.nx } σ2 H2) := by
  refine ⟨fun i m σ H => m = xs.length - i ∧ i ≤ xs.length ∧ Pv i σ H, ⟨xs.length, rfl, Nat.zero_le _, h0⟩, ?_⟩
  rintro i m σ H ⟨rfl, hi, p⟩
  have q := hq i σ H p
  rcases Nat.lt_or_ge i xs.length with hlt | hge
  · have ex := List.getElem?_eq_getElem hlt
    refine .inr ⟨⟨xs, _, q, ex⟩, Pv (i + 1), fun σ' H' p' => ⟨xs.length - (i + 1), by omega, rfl, hlt, p'⟩, ?_⟩
    rintro v H' ⟨T, x, rfl, hT, rfl, f1⟩
    exact hs i x T σ H (f1 xs q) p hT
  · have e : i = xs.length := by omega
    subst e
    exact .inl ⟨⟨xs, q, hge⟩, hd σ H p⟩
/-! ### enumerate over a list or a tuple -/
def ItEG (K : PySem.W.Frag) (t : Bool) (a : Addr) : It := match t with
  | true => IteT K a
  | false => Ite K a
def iEnumG (K : PySem.W.Frag) (ta : TA) : TI := fun σ H R => ta σ H fun vs H1 => ∃ (t : Bool) (a : Addr) (xs : List V), vs = [.ref a] ∧ ZG.Sq t K H1 a xs ∧ R (ItEG K t a) H1
theorem pi_enumG {X : Cx} {e : Expr} {ta : TA} {p pos tpos : Pos} {elts : List Expr} {kk : Nat} (hg : Gl X "enumerate") (hm : X.mg "enumerate" = none) (ha : PA X [e] ta) (hs : starEach [e] X.env = [(false, eval e X.env)] := by rfl) :
    PI X (.Tuple elts kk tpos) (.Call (.Name "enumerate" p) [e] [] pos) (iEnumG X.K ta) := by
  refine ⟨fun pins s σ H R I h => ?_⟩
  refine Call_ (ld_blt I hg hm boot_enumerate (PyProof.Rows.callWith_type1 (thn (ha.run pos pins s σ H _ I h) fun us s1 ⟨vs, H1, I1, r1, q1⟩ => ?_) hs rfl))
  obtain ⟨t, a, xs, ex, hq, q⟩ := q1
  subst ex
  have hle : ∀ b, b ∈ [s1.heap.objs.size + 1, s1.heap.objs.size] → s1.heap.objs.size ≤ b := fun b hb => by
    have e' : b = s1.heap.objs.size + 1 ∨ b = s1.heap.objs.size := by simpa using hb
    rcases e' with z | z
    · rw [z]; exact Nat.le_add_right _ _
    · rw [z]; exact Nat.le_refl _
  cases r1 with
  | cons r rr =>
    cases rr
    cases r
    cases t with
    | true =>
      obtain ⟨its, rv, p', hz⟩ := I1.tuple hq
      refine call_enumT (show s1.heap.IsTuple a its.toArray from p') fun h' he hit hsz hk => wpAny_pyIter_enum he ?_
      have I2 : Inv X pins σ H1 { s1 with heap := h' } := I1.kept (t' := s1.toks) hk
      exact ⟨s1.heap.objs.size + 1, [s1.heap.objs.size + 1, s1.heap.objs.size], _, _, H1, rfl, I2, turn_enumT a (s1.heap.objs.size + 1) s1.heap.objs.size, ⟨⟨.none, he⟩, hit, Nat.succ_ne_self _⟩, fun b hb => I1.fpOk (hle b hb) (I1.hok.fresh (hle b hb)), q⟩
    | false =>
      obtain ⟨its, rv, p', hz⟩ := I1.list hq
      refine call_enumerate_list p'.isList fun h' he hit hsz hk => wpAny_pyIter_enum he ?_
      have I2 : Inv X pins σ H1 { s1 with heap := h' } := I1.kept (t' := s1.toks) hk
      exact ⟨s1.heap.objs.size + 1, [s1.heap.objs.size + 1, s1.heap.objs.size], _, _, H1, rfl, I2, turn_enum a (s1.heap.objs.size + 1) s1.heap.objs.size, ⟨⟨.none, he⟩, hit, Nat.succ_ne_self _⟩, fun b hb => I1.fpOk (hle b hb) (I1.hok.fresh (hle b hb)), q⟩
theorem walk_enumG {K : PySem.W.Frag} {t : Bool} {a : Addr} {xs : List V} : Walk (ItEG K t a) xs.length (fun H => ZG.Sq t K H a xs) (YPair (fun i => some (.int (i : Nat))) (fun i => xs[i]?)) := by
  cases t with
  | false => exact walk_enum
  | true =>
    refine ⟨fun i H hi q => ⟨xs, xs[i], q, List.getElem?_eq_getElem hi⟩, fun H q => ⟨xs, q, Nat.le_refl _⟩, fun i H v H' _ q y => ?_⟩
    obtain ⟨T, x, h1, h2, h3, h4⟩ := y
    exact ⟨T, .int (i : Nat), x, h1, h2, h3, rfl, h4 xs q⟩
end EnT
namespace MxT
open PySem PySem.Spec PyProof.Rows L2
/-! ### max and min of a tuple of whole numbers -/
section
variable {prog : Program} {w : World} {A : Around} {E : Value → Shared → Prop} {s : Shared} {l : Addr} {its : List Value} {ns : List Int} {Q : Value → Shared → Prop}
theorem old_keptT {h' : Heap} (hk : ∀ b o, b ∉ [s.heap.objs.size] → (s.heap.push { cls := .type "tuple_iterator", data := .fields #[.ref l, .int 0 0] }).get? b = some o → h'.get? b = some o) :
    ∀ b o, s.heap.get? b = some o → h'.get? b = some o := fun b o e =>
  hk b o (fun z => absurd (Heap.lt_size e) ((List.mem_singleton.mp z) ▸ Nat.lt_irrefl _)) (Heap.get?_push_of_some _ e)
theorem maxT_raw (hh : A.handled = none) (hl : s.heap.IsTuple l its.toArray) (hi : IntsAre its ns) (hne : 0 < ns.length)
    (h : ∀ h' tk M t', (∀ b o, s.heap.get? b = some o → h'.get? b = some o) → M ∈ ns → (∀ a, a ∈ ns → a ≤ M) → Q (.int M t') { s with heap := h', toks := tk }) : wpAny (model prog w) A (call (.builtin "max") [.ref l]) Q E s := by
  obtain ⟨xs, e⟩ := hi.allInts.items
  have hn : numsOf (intItems xs).toList = ns := by rw [← e]; exact hi.numsOf
  rw [nums_intItems] at hn
  subst hn
  rw [e] at hl
  have hsz : 0 < xs.size := by simpa using hne
  have hlt : l < s.heap.objs.size := by
    obtain ⟨_, e, _⟩ := hl
    exact Heap.lt_size e
  refine PySem.call_max_walk (wpAny_pyIter_tuple hl ?_)
  refine ⟨_, _, _, _, _, _, _, rfl, Walks.tuple (A := A.in1) hh _ l (Nat.ne_of_lt hlt) (intItems xs), ⟨⟨_, Heap.get?_push_size _ rfl, rfl, rfl⟩, hl.push _⟩, fun b hb => ?_, by simpa [intItems] using hsz, CmpOf.ints_gt (numAt xs) (fun _ _ => intItems_at), fun v h' tk hv hk => ?_⟩
  · show b < (s.heap.push _).objs.size
    rw [Heap.size_push]
    have hb' : b = s.heap.objs.size ∨ b = l := by simpa using hb
    rcases hb' with z | z
    · rw [z]; exact Nat.lt_succ_self _
    · rw [z]; exact Nat.lt_succ_of_lt hlt
  · have hv' : (intItems xs)[argBest (fun i j => decide (numAt xs i > numAt xs j)) (xs.size - 1)]? = some v := by simpa [intItems] using hv
    obtain ⟨t, rfl⟩ := intItems_at hv'
    obtain ⟨h1, h2⟩ := argBest_gt (numAt xs) (xs.size - 1)
    refine h h' tk _ t (old_keptT hk) ?_ fun a ha => ?_
    · rw [numAt_eq]; exact PySem.getD_mem (by rw [List.length_map, Array.length_toList]; omega)
    · obtain ⟨j, hj, rfl⟩ := mem_getD ha
      have hj2 : j < xs.size := by simpa using hj
      rw [← numAt_eq]; exact h2 j (by omega)
theorem minT_raw (hh : A.handled = none) (hl : s.heap.IsTuple l its.toArray) (hi : IntsAre its ns) (hne : 0 < ns.length)
    (h : ∀ h' tk M t', (∀ b o, s.heap.get? b = some o → h'.get? b = some o) → M ∈ ns → (∀ a, a ∈ ns → M ≤ a) → Q (.int M t') { s with heap := h', toks := tk }) : wpAny (model prog w) A (call (.builtin "min") [.ref l]) Q E s := by
  obtain ⟨xs, e⟩ := hi.allInts.items
  have hn : numsOf (intItems xs).toList = ns := by rw [← e]; exact hi.numsOf
  rw [nums_intItems] at hn
  subst hn
  rw [e] at hl
  have hsz : 0 < xs.size := by simpa using hne
  have hlt : l < s.heap.objs.size := by
    obtain ⟨_, e, _⟩ := hl
    exact Heap.lt_size e
  refine PySem.call_min_walk (wpAny_pyIter_tuple hl ?_)
  refine ⟨_, _, _, _, _, _, _, rfl, Walks.tuple (A := A.in1) hh _ l (Nat.ne_of_lt hlt) (intItems xs), ⟨⟨_, Heap.get?_push_size _ rfl, rfl, rfl⟩, hl.push _⟩, fun b hb => ?_, by simpa [intItems] using hsz, CmpOf.ints_lt (numAt xs) (fun _ _ => intItems_at), fun v h' tk hv hk => ?_⟩
  · show b < (s.heap.push _).objs.size
    rw [Heap.size_push]
    have hb' : b = s.heap.objs.size ∨ b = l := by simpa using hb
    rcases hb' with z | z
    · rw [z]; exact Nat.lt_succ_self _
    · rw [z]; exact Nat.lt_succ_of_lt hlt
  · have hv' : (intItems xs)[argBest (fun i j => decide (numAt xs i < numAt xs j)) (xs.size - 1)]? = some v := by simpa [intItems] using hv
    obtain ⟨t, rfl⟩ := intItems_at hv'
    obtain ⟨h1, h2⟩ := argBest_lt (numAt xs) (xs.size - 1)
    refine h h' tk _ t (old_keptT hk) ?_ fun a ha => ?_
    · rw [numAt_eq]; exact PySem.getD_mem (by rw [List.length_map, Array.length_toList]; omega)
    · obtain ⟨j, hj, rfl⟩ := mem_getD ha
      have hj2 : j < xs.size := by simpa using hj
      rw [← numAt_eq]; exact h2 j (by omega)
end
section
variable {X : Cx}
def rMaxT (K : PySem.W.Frag) : List V → Hp → VK → Prop := fun vs H Q => ∃ (a : Addr) (ns : List Int), vs = [V.ref a] ∧ SqT K H a (ns.map V.int) ∧ 0 < ns.length ∧ ∀ m, m ∈ ns → (∀ y, y ∈ ns → y ≤ m) → Q (.int m) H
def rMinT (K : PySem.W.Frag) : List V → Hp → VK → Prop := fun vs H Q => ∃ (a : Addr) (ns : List Int), vs = [V.ref a] ∧ SqT K H a (ns.map V.int) ∧ 0 < ns.length ∧ ∀ m, m ∈ ns → (∀ y, y ∈ ns → m ≤ y) → Q (.int m) H
theorem call_maxT (hc : X.calm = true) : CallR X (.builtin "max") (rMaxT X.K) := by
  intro pins s σ H vs us Q I r h
  obtain ⟨a, ns, rfl, hs, hne, q⟩ := h
  obtain ⟨its, rv, hl, _⟩ := I.tuple hs
  rw [Vals.ref1 r]
  exact maxT_raw (I.ok.hd hc) hl rv.ints hne fun h' tk m t' hk h1 h2 => ⟨.int _, H, I.kept hk, ⟨_, rfl⟩, q m h1 h2⟩
theorem call_minT (hc : X.calm = true) : CallR X (.builtin "min") (rMinT X.K) := by
  intro pins s σ H vs us Q I r h
  obtain ⟨a, ns, rfl, hs, hne, q⟩ := h
  obtain ⟨its, rv, hl, _⟩ := I.tuple hs
  rw [Vals.ref1 r]
  exact minT_raw (I.ok.hd hc) hl rv.ints hne fun h' tk m t' hk h1 h2 => ⟨.int _, H, I.kept hk, ⟨_, rfl⟩, q m h1 h2⟩
end
end MxT
namespace Mine
open PySem L2
def top (i : Nat) : Stmt := PySem.Challenge.pw_neverhappens_k28_whole_rounding_is_a_clo.main.body.getD i (.Pass ⟨0, 0, 0, 0⟩)
abbrev s_close : Stmt := top 1
abbrev s_has_contradiction : Stmt := top 2
abbrev s_shortened : Stmt := top 3
abbrev s_frozen : Stmt := top 4
abbrev s_least_mark : Stmt := top 6
abbrev s_rounded : Stmt := top 7
abbrev s_round_box : Stmt := top 8
abbrev s_l_cell : Stmt := top 10
abbrev s_l_source : Stmt := top 11
abbrev s_l_pick : Stmt := top 12
abbrev s_l_one : Stmt := top 13
abbrev s_l_far : Stmt := top 14
abbrev s_l_ranges : Stmt := top 15
abbrev s_l_points : Stmt := top 16
abbrev s_l_box : Stmt := top 17
abbrev s_l_marks : Stmt := top 18
abbrev s_l_closed : Stmt := top 19
abbrev s_l_widest : Stmt := top 20
abbrev s_l_due : Stmt := top 21
abbrev s_l_below : Stmt := top 22
abbrev s_l_same : Stmt := top 23
abbrev s_l_right : Stmt := top 24
abbrev s_law : Stmt := top 25
abbrev p_close : List Str := ["matrix"]
abbrev p_has_contradiction : List Str := ["rows"]
abbrev p_shortened : List Str := ["rows", "middle"]
abbrev p_frozen : List Str := ["rows"]
abbrev p_least_mark : List Str := ["marks", "number"]
abbrev p_rounded : List Str := ["number", "widest", "marks"]
abbrev p_round_box : List Str := ["box", "ranges", "marks"]
abbrev p_l_cell : List Str := ["_law_script", "_law_at"]
abbrev p_l_source : List Str := ["_law_cell_here"]
abbrev p_l_pick : List Str := ["_law_source_here", "_law_size"]
abbrev p_l_one : List Str := ["_law_source_here", "_law_row"]
abbrev p_l_far : List Str := ["_law_source_here"]
abbrev p_l_ranges : List Str := ["_law_source_here", "_law_size"]
abbrev p_l_points : List Str := ["_law_source_here", "_law_ranges_here"]
abbrev p_l_box : List Str := ["_law_points_here"]
abbrev p_l_marks : List Str := ["_law_source_here", "_law_ranges_here", "_law_boxes"]
abbrev p_l_closed : List Str := ["_law_rows"]
abbrev p_l_widest : List Str := ["_law_ranges_here"]
abbrev p_l_due : List Str := ["_law_box_here", "_law_ranges_here", "_law_marks_here"]
abbrev p_l_below : List Str := ["_law_small", "_law_great"]
abbrev p_l_same : List Str := ["_law_actual", "_law_due_here"]
abbrev p_l_right : List Str := ["_law_boxes", "_law_ranges_here", "_law_marks_here"]
abbrev p_law : List Str := ["_law_script"]
/-- what the program's top leaves: where each def stands -/
structure Txt (w : World) (K : PySem.W.Frag) (mg : Str → Option Value) where
  a_close : Addr
  d_close : FuncData
  F_close : Fun K "close" "close" s_close a_close d_close
  b_close : Binds K d_close p_close []
  m_close : mg "close" = some (.ref a_close)
  a_has_contradiction : Addr
  d_has_contradiction : FuncData
  F_has_contradiction : Fun K "has_contradiction" "has_contradiction" s_has_contradiction a_has_contradiction d_has_contradiction
  b_has_contradiction : Binds K d_has_contradiction p_has_contradiction []
  m_has_contradiction : mg "has_contradiction" = some (.ref a_has_contradiction)
  a_shortened : Addr
  d_shortened : FuncData
  F_shortened : Fun K "shortened" "shortened" s_shortened a_shortened d_shortened
  b_shortened : Binds K d_shortened p_shortened []
  m_shortened : mg "shortened" = some (.ref a_shortened)
  a_frozen : Addr
  d_frozen : FuncData
  F_frozen : Fun K "frozen" "frozen" s_frozen a_frozen d_frozen
  b_frozen : Binds K d_frozen p_frozen []
  m_frozen : mg "frozen" = some (.ref a_frozen)
  a_least_mark : Addr
  d_least_mark : FuncData
  F_least_mark : Fun K "least_mark" "least_mark" s_least_mark a_least_mark d_least_mark
  b_least_mark : Binds K d_least_mark p_least_mark []
  m_least_mark : mg "least_mark" = some (.ref a_least_mark)
  a_rounded : Addr
  d_rounded : FuncData
  F_rounded : Fun K "rounded" "rounded" s_rounded a_rounded d_rounded
  b_rounded : Binds K d_rounded p_rounded []
  m_rounded : mg "rounded" = some (.ref a_rounded)
  a_round_box : Addr
  d_round_box : FuncData
  F_round_box : Fun K "round_box" "round_box" s_round_box a_round_box d_round_box
  b_round_box : Binds K d_round_box p_round_box []
  m_round_box : mg "round_box" = some (.ref a_round_box)
  a_l_cell : Addr
  d_l_cell : FuncData
  F_l_cell : Fun K "_law_cell" "_law_cell" s_l_cell a_l_cell d_l_cell
  b_l_cell : Binds K d_l_cell p_l_cell []
  m_l_cell : mg "_law_cell" = some (.ref a_l_cell)
  a_l_source : Addr
  d_l_source : FuncData
  F_l_source : Fun K "_law_source" "_law_source" s_l_source a_l_source d_l_source
  b_l_source : Binds K d_l_source p_l_source []
  m_l_source : mg "_law_source" = some (.ref a_l_source)
  a_l_pick : Addr
  d_l_pick : FuncData
  F_l_pick : Fun K "_law_pick" "_law_pick" s_l_pick a_l_pick d_l_pick
  b_l_pick : Binds K d_l_pick p_l_pick []
  m_l_pick : mg "_law_pick" = some (.ref a_l_pick)
  a_l_one : Addr
  d_l_one : FuncData
  F_l_one : Fun K "_law_one" "_law_one" s_l_one a_l_one d_l_one
  b_l_one : Binds K d_l_one p_l_one []
  m_l_one : mg "_law_one" = some (.ref a_l_one)
  a_l_far : Addr
  d_l_far : FuncData
  F_l_far : Fun K "_law_far" "_law_far" s_l_far a_l_far d_l_far
  b_l_far : Binds K d_l_far p_l_far []
  m_l_far : mg "_law_far" = some (.ref a_l_far)
  a_l_ranges : Addr
  d_l_ranges : FuncData
  F_l_ranges : Fun K "_law_ranges" "_law_ranges" s_l_ranges a_l_ranges d_l_ranges
  b_l_ranges : Binds K d_l_ranges p_l_ranges []
  m_l_ranges : mg "_law_ranges" = some (.ref a_l_ranges)
  a_l_points : Addr
  d_l_points : FuncData
  F_l_points : Fun K "_law_points" "_law_points" s_l_points a_l_points d_l_points
  b_l_points : Binds K d_l_points p_l_points []
  m_l_points : mg "_law_points" = some (.ref a_l_points)
  a_l_box : Addr
  d_l_box : FuncData
  F_l_box : Fun K "_law_box" "_law_box" s_l_box a_l_box d_l_box
  b_l_box : Binds K d_l_box p_l_box []
  m_l_box : mg "_law_box" = some (.ref a_l_box)
  a_l_marks : Addr
  d_l_marks : FuncData
  F_l_marks : Fun K "_law_marks" "_law_marks" s_l_marks a_l_marks d_l_marks
  b_l_marks : Binds K d_l_marks p_l_marks []
  m_l_marks : mg "_law_marks" = some (.ref a_l_marks)
  a_l_closed : Addr
  d_l_closed : FuncData
  F_l_closed : Fun K "_law_closed" "_law_closed" s_l_closed a_l_closed d_l_closed
  b_l_closed : Binds K d_l_closed p_l_closed []
  m_l_closed : mg "_law_closed" = some (.ref a_l_closed)
  a_l_widest : Addr
  d_l_widest : FuncData
  F_l_widest : Fun K "_law_widest" "_law_widest" s_l_widest a_l_widest d_l_widest
  b_l_widest : Binds K d_l_widest p_l_widest []
  m_l_widest : mg "_law_widest" = some (.ref a_l_widest)
  a_l_due : Addr
  d_l_due : FuncData
  F_l_due : Fun K "_law_due" "_law_due" s_l_due a_l_due d_l_due
  b_l_due : Binds K d_l_due p_l_due []
  m_l_due : mg "_law_due" = some (.ref a_l_due)
  a_l_below : Addr
  d_l_below : FuncData
  F_l_below : Fun K "_law_below" "_law_below" s_l_below a_l_below d_l_below
  b_l_below : Binds K d_l_below p_l_below []
  m_l_below : mg "_law_below" = some (.ref a_l_below)
  a_l_same : Addr
  d_l_same : FuncData
  F_l_same : Fun K "_law_same" "_law_same" s_l_same a_l_same d_l_same
  b_l_same : Binds K d_l_same p_l_same []
  m_l_same : mg "_law_same" = some (.ref a_l_same)
  a_l_right : Addr
  d_l_right : FuncData
  F_l_right : Fun K "_law_right" "_law_right" s_l_right a_l_right d_l_right
  b_l_right : Binds K d_l_right p_l_right []
  m_l_right : mg "_law_right" = some (.ref a_l_right)
  a_law : Addr
  d_law : FuncData
  F_law : Fun K "law" "law" s_law a_law d_law
  b_law : Binds K d_law p_law []
  m_law : mg "law" = some (.ref a_law)
  z_any : mg "any" = none
  z_bool : mg "bool" = none
  z_enumerate : mg "enumerate" = none
  z_int : mg "int" = none
  z_isinstance : mg "isinstance" = none
  z_len : mg "len" = none
  z_list : mg "list" = none
  z_max : mg "max" = none
  z_min : mg "min" = none
  z_range : mg "range" = none
  z_set : mg "set" = none
  z_sorted : mg "sorted" = none
  z_str : mg "str" = none
  z_tuple : mg "tuple" = none
  z_zip : mg "zip" = none
abbrev n_close : List Str := ["matrix", "rows", "i", "row", "j", "most", "middle"]
theorem sc_close : FnScope n_close p_close (defScope s_close) := ⟨rfl, rfl, rfl, by decide +kernel, rfl, by decide +kernel, by decide +kernel⟩
abbrev n_has_contradiction : List Str := ["rows", "at", "row"]
theorem sc_has_contradiction : FnScope n_has_contradiction p_has_contradiction (defScope s_has_contradiction) := ⟨rfl, rfl, rfl, by decide +kernel, rfl, by decide +kernel, by decide +kernel⟩
abbrev n_shortened : List Str := ["rows", "middle", "through", "row", "most", "second"]
theorem sc_shortened : FnScope n_shortened p_shortened (defScope s_shortened) := ⟨rfl, rfl, rfl, by decide +kernel, rfl, by decide +kernel, by decide +kernel⟩
abbrev n_frozen : List Str := ["rows", "row"]
theorem sc_frozen : FnScope n_frozen p_frozen (defScope s_frozen) := ⟨rfl, rfl, rfl, by decide +kernel, rfl, by decide +kernel, by decide +kernel⟩
abbrev n_least_mark : List Str := ["marks", "number", "low", "high", "middle"]
theorem sc_least_mark : FnScope n_least_mark p_least_mark (defScope s_least_mark) := ⟨rfl, rfl, rfl, by decide +kernel, rfl, by decide +kernel, by decide +kernel⟩
abbrev n_rounded : List Str := ["number", "widest", "marks", "mark"]
theorem sc_rounded : FnScope n_rounded p_rounded (defScope s_rounded) := ⟨rfl, rfl, rfl, by decide +kernel, rfl, by decide +kernel, by decide +kernel⟩
abbrev n_round_box : List Str := ["box", "ranges", "marks", "ends", "i", "_", "high", "j", "low"]
theorem sc_round_box : FnScope n_round_box p_round_box (defScope s_round_box) := ⟨rfl, rfl, rfl, by decide +kernel, rfl, by decide +kernel, by decide +kernel⟩
abbrev n_l_cell : List Str := ["_law_script", "_law_at"]
theorem sc_l_cell : FnScope n_l_cell p_l_cell (defScope s_l_cell) := ⟨rfl, rfl, rfl, by decide +kernel, rfl, by decide +kernel, by decide +kernel⟩
abbrev n_l_source : List Str := ["_law_cell_here"]
theorem sc_l_source : FnScope n_l_source p_l_source (defScope s_l_source) := ⟨rfl, rfl, rfl, by decide +kernel, rfl, by decide +kernel, by decide +kernel⟩
abbrev n_l_pick : List Str := ["_law_source_here", "_law_size", "_law_k", "_law_digit", "_law_mixed"]
theorem sc_l_pick : FnScope n_l_pick p_l_pick (defScope s_l_pick) := ⟨rfl, rfl, rfl, by decide +kernel, rfl, by decide +kernel, by decide +kernel⟩
abbrev n_l_one : List Str := ["_law_source_here", "_law_row"]
theorem sc_l_one : FnScope n_l_one p_l_one (defScope s_l_one) := ⟨rfl, rfl, rfl, by decide +kernel, rfl, by decide +kernel, by decide +kernel⟩
abbrev n_l_far : List Str := ["_law_source_here"]
theorem sc_l_far : FnScope n_l_far p_l_far (defScope s_l_far) := ⟨rfl, rfl, rfl, by decide +kernel, rfl, by decide +kernel, by decide +kernel⟩
abbrev n_l_ranges : List Str := ["_law_source_here", "_law_size", "_law_ranges_here", "_law_k", "_law_low"]
theorem sc_l_ranges : FnScope n_l_ranges p_l_ranges (defScope s_l_ranges) := ⟨rfl, rfl, rfl, by decide +kernel, rfl, by decide +kernel, by decide +kernel⟩
abbrev n_l_points : List Str := ["_law_source_here", "_law_ranges_here", "_law_points_here", "_law_turn", "_law_pair"]
theorem sc_l_points : FnScope n_l_points p_l_points (defScope s_l_points) := ⟨rfl, rfl, rfl, by decide +kernel, rfl, by decide +kernel, by decide +kernel⟩
abbrev n_l_box : List Str := ["_law_points_here", "_law_full", "_law_point", "_law_rows", "_law_i", "_law_j"]
theorem sc_l_box : FnScope n_l_box p_l_box (defScope s_l_box) := ⟨rfl, rfl, rfl, by decide +kernel, rfl, by decide +kernel, by decide +kernel⟩
abbrev n_l_marks : List Str := ["_law_source_here", "_law_ranges_here", "_law_boxes", "_law_marks_here", "_law_turn", "_law_choice", "_law_near"]
theorem sc_l_marks : FnScope n_l_marks p_l_marks (defScope s_l_marks) := ⟨rfl, rfl, rfl, by decide +kernel, rfl, by decide +kernel, by decide +kernel⟩
abbrev n_l_closed : List Str := ["_law_rows", "_law_closed_here", "_law_row", "_law_k", "_law_i", "_law_j"]
theorem sc_l_closed : FnScope n_l_closed p_l_closed (defScope s_l_closed) := ⟨rfl, rfl, rfl, by decide +kernel, rfl, by decide +kernel, by decide +kernel⟩
abbrev n_l_widest : List Str := ["_law_ranges_here", "_law_ends", "_law_rows", "_law_i", "_law_j"]
theorem sc_l_widest : FnScope n_l_widest p_l_widest (defScope s_l_widest) := ⟨rfl, rfl, rfl, by decide +kernel, rfl, by decide +kernel, by decide +kernel⟩
abbrev n_l_due : List Str := ["_law_box_here", "_law_ranges_here", "_law_marks_here", "_law_rows", "_law_i", "_law_j", "_law_above", "_law_mark"]
theorem sc_l_due : FnScope n_l_due p_l_due (defScope s_l_due) := ⟨rfl, rfl, rfl, by decide +kernel, rfl, by decide +kernel, by decide +kernel⟩
abbrev n_l_below : List Str := ["_law_small", "_law_great", "_law_i", "_law_j"]
theorem sc_l_below : FnScope n_l_below p_l_below (defScope s_l_below) := ⟨rfl, rfl, rfl, by decide +kernel, rfl, by decide +kernel, by decide +kernel⟩
abbrev n_l_same : List Str := ["_law_actual", "_law_due_here", "_law_k"]
theorem sc_l_same : FnScope n_l_same p_l_same (defScope s_l_same) := ⟨rfl, rfl, rfl, by decide +kernel, rfl, by decide +kernel, by decide +kernel⟩
abbrev n_l_right : List Str := ["_law_boxes", "_law_ranges_here", "_law_marks_here", "_law_told", "_law_box_here", "_law_actual"]
theorem sc_l_right : FnScope n_l_right p_l_right (defScope s_l_right) := ⟨rfl, rfl, rfl, by decide +kernel, rfl, by decide +kernel, by decide +kernel⟩
abbrev n_law : List Str := ["_law_script", "_law_source_here", "_law_size", "_law_ranges_here", "_law_some", "_law_boxes", "_law_marks_here", "_law_others"]
theorem sc_law : FnScope n_law p_law (defScope s_law) := ⟨rfl, rfl, rfl, by decide +kernel, rfl, by decide +kernel, by decide +kernel⟩
/-! ### a list against the empty one -/
def rEqL0 (K : PySem.W.Frag) (neg : Bool) : R2 := fun x y H Q => ∃ (a b : Addr) (xs : List V), x = .ref a ∧ y = .ref b ∧ SqL K H a xs ∧ SqL K H b [] ∧ Q (.bl (if neg then !xs.isEmpty else xs.isEmpty)) H
theorem op_neL0 {X : Cx} (hu : X.A.units < cLine) : OpR X (compareOp .NotEq) (rEqL0 X.K true) := by
  intro pins s σ H x y v u Q I rx ry h
  obtain ⟨a, b, xs, rfl, rfl, ha, hb, q⟩ := h
  obtain rfl : v = Value.ref a := rx
  obtain rfl : u = Value.ref b := ry
  obtain ⟨its, r1, t1, _⟩ := I.list ha
  obtain ⟨its2, r2, t2, _⟩ := I.list hb
  cases r2
  cases r1 with
  | nil => exact SeqAt.RcNeAt.lists (e := fun _ => true) t1.isList t2.isList rfl hu (fun j h1 h2 => absurd h2 (by simp)) _ _ _ _ ⟨.bl _, H, I, rfl, q⟩
  | cons _ _ => exact SeqAt.RcNeAt.lists_lengths t1.isList t2.isList (by simp) hu _ _ _ _ ⟨.bl _, H, I, rfl, q⟩
theorem op_eqL0 {X : Cx} (hu : X.A.units < cLine) : OpR X (compareOp .Eq) (rEqL0 X.K false) := by
  intro pins s σ H x y v u Q I rx ry h
  obtain ⟨a, b, xs, rfl, rfl, ha, hb, q⟩ := h
  obtain rfl : v = Value.ref a := rx
  obtain rfl : u = Value.ref b := ry
  obtain ⟨its, r1, t1, _⟩ := I.list ha
  obtain ⟨its2, r2, t2, _⟩ := I.list hb
  cases r2
  cases r1 with
  | nil => exact SeqAt.eq_listAt (e := fun _ => true) t1.isList t2.isList rfl hu (fun j h1 h2 => absurd h2 (by simp)) ⟨.bl _, H, I, rfl, q⟩
  | cons _ _ => exact SeqAt.eq_list_lengthsAt t1.isList t2.isList (by simp) hu ⟨.bl _, H, I, rfl, q⟩
/-! ### built-in names -/
theorem bt_int : bootBuiltins "int" = some (.type "int") := by decide +kernel
theorem bt_str : bootBuiltins "str" = some (.type "str") := by decide +kernel
theorem bt_bool : bootBuiltins "bool" = some (.type "bool") := by decide +kernel
theorem bt_tuple : bootBuiltins "tuple" = some (.type "tuple") := by decide +kernel
theorem bt_list : bootBuiltins "list" = some (.type "list") := by decide +kernel
theorem bt_dict : bootBuiltins "dict" = some (.type "dict") := by decide +kernel
theorem bb_max : bootBuiltins "max" = some (.builtin "max") := by decide +kernel
theorem bb_min : bootBuiltins "min" = some (.builtin "min") := by decide +kernel
theorem bb_isinstance : bootBuiltins "isinstance" = some (.builtin "isinstance") := by decide +kernel
/-! ### a source of draws: a list of three ints, which draws alone change -/
def Src (H : Hp) (a : Addr) : Prop := ∃ c m k : Int, H a = some (.lst [.int c, .int m, .int k])
/-- a source stands at a, and nothing else that was tracked has changed -/
structure Stp (a : Addr) (H H' : Hp) : Prop where
  s : Src H' a
  k : ∀ b o, b ≠ a → H b = some o → H' b = some o
theorem Stp.refl {a : Addr} {H : Hp} (h : Src H a) : Stp a H H := ⟨h, fun _ _ _ e => e⟩
theorem Stp.trans {a : Addr} {H H1 H2 : Hp} (x : Stp a H H1) (y : Stp a H1 H2) : Stp a H H2 := ⟨y.s, fun b o hb e => y.k b o hb (x.k b o hb e)⟩
theorem Src.ne {a p : Addr} {H : Hp} (h : Src H a) (n : H p = none) : a ≠ p := by
  obtain ⟨c, m, k, h⟩ := h
  exact ne_of_none h n
theorem Stp.free {a p : Addr} {H H' : Hp} (x : Stp a H H') (n : H' p = none) : H p = none := by
  cases q : H p with
  | none => rfl
  | some o =>
    have ne : p ≠ a := fun z => x.s.ne n z.symm
    rw [x.k p o ne q] at n
    cases n
/-- a new object beside the source -/
theorem Stp.new {a p : Addr} {H H' : Hp} {o : HO} (x : Stp a H H') (n : H' p = none) : Stp a H (upd H' p o) := by
  have ne := x.s.ne n
  obtain ⟨c, m, k, h⟩ := x.s
  refine ⟨⟨c, m, k, by rw [upd_ne ne]; exact h⟩, fun b u hb e => ?_⟩
  have e' := x.k b u hb e
  rw [upd_ne (ne_of_none e' n)]
  exact e'
theorem Stp.same {a : Addr} {H H' H2 : Hp} (x : Stp a H H') (s : Same H' H2) : Stp a H H2 := by
  obtain ⟨c, m, k, h⟩ := x.s
  exact ⟨⟨c, m, k, s _ _ h⟩, fun b o hb e => s b o (x.k b o hb e)⟩
theorem Stp.of_same {a : Addr} {H H' : Hp} (h : Src H a) (s : Same H H') : Stp a H H' := (Stp.refl h).same s
theorem Same.new {H : Hp} {p : Addr} (h : H p = none) (o : HO) : Same H (upd H p o) := fun b u q => by rw [upd_ne (ne_of_none q h)]; exact q
/-- a source that is new ahead of its draws: all that was tracked stands -/
theorem Stp.fresh {a : Addr} {H H1 H2 : Hp} (s : Same H H1) (n : H a = none) (x : Stp a H1 H2) : Same H H2 := fun b o e => x.k b o (ne_of_none e n) (s b o e)
theorem Stp.rd {K : PySem.W.Frag} {a p : Addr} {H H' : Hp} {xs : List V} (x : Stp a H H') (h : SqT K H p xs) (hs : Src H a) : SqT K H' p xs := by
  obtain ⟨c, m, k, hs⟩ := hs
  rcases h with (h | ⟨o, h⟩) | h
  · exact .inl (.inl (x.k _ _ (ne_of h hs (by intro z; cases z)) h))
  · exact .inl (.inr ⟨o, x.k _ _ (ne_of h hs (by intro z; cases z)) h⟩)
  · exact .inr h
theorem Stp.rdL {K : PySem.W.Frag} {a p : Addr} {H H' : Hp} {xs : List V} (x : Stp a H H') (h : SqL K H p xs) (ne : p ≠ a) : SqL K H' p xs := by
  rcases h with (h | ⟨o, h⟩) | h
  · exact .inl (.inl (x.k _ _ ne h))
  · exact .inl (.inr ⟨o, x.k _ _ ne h⟩)
  · exact .inr h
theorem Same.tup {K : PySem.W.Frag} {p : Addr} {H H' : Hp} {xs : List V} (x : Same H H') (h : SqT K H p xs) : SqT K H' p xs := by
  rcases h with (h | ⟨o, h⟩) | h
  · exact .inl (.inl (x _ _ h))
  · exact .inl (.inr ⟨o, x _ _ h⟩)
  · exact .inr h
/-! ### numbers -/
theorem ifT {c : Bool} {A B : Prop} (h : c = true) (a : A) : if c = true then A else B := by rw [if_pos h]; exact a
theorem ifF {c : Bool} {A B : Prop} (h : c = false) (b : B) : if c = true then A else B := by rw [h]; exact iteF b
theorem fmod_bd {x m : Int} (h : 0 < m) : 0 ≤ x.fmod m ∧ x.fmod m < m := ⟨Int.fmod_nonneg_of_pos x h, Int.fmod_lt_of_pos x h⟩
theorem fm64 {x m : Int} (h : 0 < m) (h2 : m ≤ 2 ^ 64) : -(2 ^ 64) < x.fmod m ∧ x.fmod m < 2 ^ 64 :=
  ⟨Int.lt_of_lt_of_le (by decide) (fmod_bd h).1, Int.lt_of_lt_of_le (fmod_bd h).2 h2⟩
theorem atI_int {α : Type} {xs : List α} {r : Int} (h0 : 0 ≤ r) (h : r.toNat < xs.length) : atI xs r = some xs[r.toNat] := by
  have e := atI_nat (xs := xs) (j := r.toNat) (List.getElem?_eq_getElem h)
  rwa [Int.toNat_of_nonneg h0] at e
/-! ### the promises of the draws -/
def spCell (K : PySem.W.Frag) : Sp := fun vs H Q _ => ∃ (l : Addr) (ns : List Int) (j : Int), vs = [.ref l, .int j] ∧ SqL K H l (ns.map V.int) ∧ 0 ≤ j ∧ ∀ i : Int, Q (.int i) H
def spSource : Sp := fun vs H Q _ => ∃ c : Int, vs = [.int c] ∧ ∀ p H', H p = none → Same H H' → Src H' p → Q (.ref p) H'
def spPick : Sp := fun vs H Q _ => ∃ (a : Addr) (n : Int), vs = [.ref a, .int n] ∧ Src H a ∧ n < 1073741824 ∧ ∀ (r : Int) (H' : Hp), Stp a H H' → 0 ≤ r → (r < n ∨ r = 0) → Q (.int r) H'
def spOne (K : PySem.W.Frag) : Sp := fun vs H Q _ => ∃ (a : Addr) (row : V), vs = [.ref a, row] ∧ Src H a ∧
  ((∃ (p : Addr) (xs : List V), row = .ref p ∧ p ≠ a ∧ SqL K H p xs ∧ 0 < xs.length ∧ xs.length < 1000 ∧ ∀ v H', v ∈ xs → Stp a H H' → Q v H') ∨
   (∃ z : Str, row = .str z ∧ 0 < z.length ∧ z.length < 1000 ∧ ∀ (c : Nat) H', c ∈ z.cps.toList → Stp a H H' → Q (.str ⟨#[c]⟩) H'))
section
variable {P : Program} {w : World} {K : PySem.W.Frag} {mg : Str → Option Value} {base : Heap}
theorem ok_l_cell (T : Txt w K mg) : FnOk P w K mg base CX0 1 T.a_l_cell T.d_l_cell p_l_cell (spCell K) := by
  refine T.F_l_cell.ok sc_l_cell (fun vs H Q E h => ?_) (fun cdv A outer s H vs Q E hr h => ?_)
  · obtain ⟨l, ns, j, rfl, _⟩ := h
    rfl
  obtain ⟨l, ns, j, rfl, hS, h0, q⟩ := h
  refine ⟨_, (pss_cons (ps_if (pt_cmpR op_lt (pv 1) (pe_callB call_len_seq rfl T.z_len PySem.boot_len (pa_cons (pv 0) pa_nil)) (nomark _)) (pss_one (ps_ret (pe_ix ix_list (pv 0) (pv 1) (fun _ _ => rfl)))) pss_nil)
      (pss_one (ps_ret pe_int))), ?_⟩
  have hl : (ns.map V.int).length = ns.length := List.length_map _
  refine ⟨_, rfl, _, rfl, l, _, rfl, .inl hS, _, _, rfl, rfl, _, rfl, ?_⟩
  refine ite2 (fun c => ?_) (fun c => ?_)
  · have c' : j < (((ns.map V.int).length : Nat) : Int) := of_decide_eq_true c
    rw [hl] at c'
    have hk : j.toNat < ns.length := by omega
    have e := atI_int (xs := ns.map V.int) h0 (by omega)
    rw [List.getElem_map] at e
    exact ⟨_, rfl, _, rfl, l, _, _, _, rfl, rfl, hS, e, q _⟩
  · exact q 0
theorem ok_l_source (T : Txt w K mg) : FnOk P w K mg base CX0 1 T.a_l_source T.d_l_source p_l_source spSource := by
  refine T.F_l_source.ok sc_l_source (fun vs H Q E h => ?_) (fun cdv A outer s H vs Q E hr h => ?_)
  · obtain ⟨c, rfl, _⟩ := h
    rfl
  obtain ⟨c, rfl, q⟩ := h
  refine ⟨_, (pss_one (ps_ret (pe_lst (pa_cons (pv 0) (pa_cons (pv 0) (pa_cons pe_int pa_nil)))))), ?_⟩
  refine ⟨_, rfl, _, rfl, (by show 3 ≤ sizeLine; decide), fun p hp => ?_⟩
  exact q p _ hp (Same.new hp _) ⟨c, c, 0, upd_same⟩
theorem ok_l_pick (T : Txt w K mg) : FnOk P w K mg base CX0 1 T.a_l_pick T.d_l_pick p_l_pick spPick := by
  refine T.F_l_pick.ok sc_l_pick (fun vs H Q E h => ?_) (fun cdv A outer s H vs Q E hr h => ?_)
  · obtain ⟨a, n, rfl, _⟩ := h
    rfl
  obtain ⟨a, n, rfl, ⟨c, m, k, hS⟩, hn, q⟩ := h
  refine ⟨_, (pss_cons (ps_set (i := 2) sc_l_pick.nd rfl (Or.inl rfl) (pe_ix ix_list (pv 0) pe_int (fun _ _ => rfl)))
      (pss_cons (ps_asg (pe_op op_add (pv 2) pe_int) (pg_sub (pv 0) pe_int set_list))
      (pss_cons (ps_if (pt_cmpR op_lt (pv 1) pe_int (nomark _)) (pss_one (ps_ret pe_int)) pss_nil)
      (pss_cons (ps_if (PW.pt (pw_and (pt_cmpR op_ge (pe_ix ix_list (pv 0) pe_int (fun _ _ => rfl)) (pe_op op_pow pe_int pe_int) (nomark _)) (pw_and1 (pt_cmpR op_gt (pe_ix ix_list (pv 0) pe_int (fun _ _ => rfl)) pe_int (nomark _))))) (pss_cons (ps_set (i := 3) sc_l_pick.nd rfl (Or.inl rfl) (pe_op op_modN (pe_callTy call_int1 rfl T.z_int bt_int (pa_cons (pe_ix ix_list (pv 0) pe_int (fun _ _ => rfl)) pa_nil)) (pv 1)))
      (pss_cons (ps_asg (pe_op op_fdivN (pe_ix ix_list (pv 0) pe_int (fun _ _ => rfl)) (pv 1)) (pg_sub (pv 0) pe_int set_list))
      (pss_one (ps_ret (pv 3))))) pss_nil)
      (pss_cons (ps_set (i := 4) sc_l_pick.nd rfl (Or.inl rfl) (pe_op op_modN (pe_callTy call_int1 rfl T.z_int bt_int (pa_cons (pe_op op_add (pe_op op_add (pe_ix ix_list (pv 0) pe_int (fun _ _ => rfl)) (pe_op op_mul pe_int (pv 2))) pe_int) pa_nil)) pe_int))
      (pss_cons (ps_set (i := 4) sc_l_pick.nd rfl (Or.inl rfl) (pe_op op_modN (pe_callTy call_int1 rfl T.z_int bt_int (pa_cons (pe_op op_mul (pv 4) (pe_op op_add (pv 4) pe_int)) pa_nil)) pe_int))
      (pss_cons (ps_set (i := 4) sc_l_pick.nd rfl (Or.inl rfl) (pe_op op_modN (pe_callTy call_int1 rfl T.z_int bt_int (pa_cons (pe_op op_add (pe_op op_mul (pv 4) (pe_op op_add (pv 4) pe_int)) (pe_op op_mul pe_int (pv 2))) pa_nil)) pe_int))
      (pss_one (ps_ret (pe_op op_modN (pe_callTy call_int1 rfl T.z_int bt_int (pa_cons (pe_op op_fdivN (pv 4) pe_int) pa_nil)) (pv 1))))))))))), ?_⟩
  refine ⟨_, rfl, a, _, 2, _, rfl, rfl, SqL.of hS, rfl, ?_⟩
  refine ⟨_, rfl, k, 1, rfl, rfl, _, rfl, a, _, 2, 2, rfl, rfl, hS, rfl, ?_⟩
  have h1 : (upd H a (.lst [.int c, .int m, .int (k + 1)])) a = some (.lst [.int c, .int m, .int (k + 1)]) := upd_same
  have st : Stp a H (upd H a (.lst [.int c, .int m, .int (k + 1)])) := ⟨⟨c, m, k + 1, upd_same⟩, fun b o hb e => by rw [upd_ne hb]; exact e⟩
  refine ⟨_, rfl, n, 2, rfl, rfl, _, rfl, ?_⟩
  refine ite2 (fun _ => ?_) (fun c2 => ?_)
  · exact q 0 _ st (Int.le_refl 0) (.inr rfl)
  have hn2 : ¬ n < 2 := of_decide_eq_false (Bool.eq_false_iff.mpr c2)
  refine ⟨_, rfl, a, _, 0, _, rfl, rfl, SqL.of h1, rfl, 10, 18, rfl, rfl, ⟨by decide, by decide, by decide⟩, _, _, rfl, rfl, _, rfl, ?_⟩
  refine ite2 (fun _ => ⟨_, rfl, a, _, 1, _, rfl, rfl, SqL.of h1, rfl, _, _, rfl, rfl, _, rfl, ite2 (fun _ => ?first) (fun _ => ?second)⟩) (fun _ => iteF ?third)
  case first =>
    refine ⟨_, rfl, a, _, 1, _, rfl, rfl, SqL.of h1, rfl, .inl ⟨_, rfl, ?_⟩⟩
    refine ⟨_, rfl, _, _, rfl, rfl, by omega, ?_⟩
    refine ⟨_, rfl, a, _, 1, _, rfl, rfl, SqL.of h1, rfl, _, rfl, m, n, rfl, rfl, ⟨by omega, by omega⟩, _, rfl, a, _, 1, 1, rfl, rfl, h1, rfl, ?_⟩
    refine ⟨_, rfl, ?_⟩
    have b := fmod_bd (x := m) (m := n) (by omega)
    refine q _ _ ⟨⟨c, m.fdiv n, k + 1, upd_same⟩, fun b o hb e => ?_⟩ b.1 (.inl b.2)
    rw [upd_ne hb]
    exact st.k b o hb e
  all_goals
    refine ⟨_, rfl, a, _, 0, _, rfl, rfl, SqL.of h1, rfl, _, rfl, 7919, k, rfl, rfl, .inl ⟨by decide, by decide⟩, _, _, rfl, rfl, _, _, rfl, rfl, .inl ⟨_, rfl, ?_⟩⟩
    refine ⟨_, _, rfl, rfl, (by intro z; cases z), ?_⟩
    refine ⟨_, rfl, _, rfl, _, _, rfl, rfl, _, _, rfl, rfl, .inl (fm64 (by decide) (by decide)), .inl ⟨_, rfl, ?_⟩⟩
    refine ⟨_, _, rfl, rfl, (by intro z; cases z), ?_⟩
    refine ⟨_, rfl, _, rfl, _, _, rfl, rfl, _, _, rfl, rfl, .inl (fm64 (by decide) (by decide)), _, rfl, 31, k, rfl, rfl, .inl ⟨by decide, by decide⟩, _, _, rfl, rfl, .inl ⟨_, rfl, ?_⟩⟩
    refine ⟨_, _, rfl, rfl, (by intro z; cases z), ?_⟩
    refine ⟨_, rfl, _, _, rfl, rfl, ⟨by decide, by decide⟩, .inl ⟨_, rfl, ?_⟩⟩
    refine ⟨_, rfl, _, _, rfl, rfl, (by omega), ?_⟩
    exact q _ _ st (fmod_bd (by omega)).1 (.inl (fmod_bd (by omega)).2)
theorem ok_l_one (T : Txt w K mg) : FnOk P w K mg base CX0 2 T.a_l_one T.d_l_one p_l_one (spOne K) := by
  have g_l_pick := ok_l_pick (P := P) (w := w) (base := base) T
  refine T.F_l_one.ok sc_l_one (fun vs H Q E h => ?_) (fun cdv A outer s H vs Q E hr h => ?_)
  · obtain ⟨a, row, rfl, _⟩ := h
    rfl
  obtain ⟨a, row, rfl, hS, h⟩ := h
  refine ⟨_, (pss_one (ps_ret (pe_ix ix_seq (pv 1) (pe_call g_l_pick (hr.mono (by first | decide | omega)) rfl T.m_l_pick T.F_l_pick.kp T.b_l_pick .nil pass0 (pa_cons (pv 0) (pa_cons (pe_callB call_len rfl T.z_len PySem.boot_len (pa_cons (pv 1) pa_nil)) pa_nil))) (fun _ _ => rfl)))), ?_⟩
  rcases h with ⟨p, xs, rfl, ne, hx, h0, h9, q⟩ | ⟨z, rfl, h0, h9, q⟩
  · refine ⟨_, rfl, _, rfl, _, rfl, .ref p, xs.length, rfl, .inl ⟨_, hx, rfl⟩, ?_⟩
    refine ⟨a, _, rfl, hS, by omega, fun r H' st r0 r1 => ?_⟩
    have hr' : r.toNat < xs.length := by omega
    have e := atI_int (xs := xs) r0 hr'
    exact .inl ⟨p, xs, r, _, rfl, rfl, st.rdL hx ne, e, q _ _ (List.getElem_mem hr') st⟩
  · refine ⟨_, rfl, _, rfl, _, rfl, .str z, z.length, rfl, ⟨Nat.le_of_lt (small1000 (by omega)), rfl⟩, ?_⟩
    refine ⟨a, _, rfl, hS, by omega, fun r H' st r0 r1 => ?_⟩
    have ez : z.length = z.cps.toList.length := by simp [Str.length]
    have hr' : r.toNat < z.cps.toList.length := by omega
    have e := atI_int (xs := z.cps.toList) r0 hr'
    exact .inr (.inr ⟨z, r, _, rfl, rfl, Nat.le_of_lt (small1000 (by omega)), e, q _ _ (List.getElem_mem hr') st⟩)
end
/-! ### data: equal data are the same to _law_same -/
def Dok : Nat → PyData → Prop
  | 0, _ => False
  | _ + 1, .none => True
  | _ + 1, .bool _ => True
  | _ + 1, .int _ => True
  | _ + 1, .str _ => True
  | n + 1, .tuple ds => ds.length ≤ 100000 ∧ ∀ d ∈ ds, Dok n d
  | n + 1, .list ds => ds.length ≤ 100000 ∧ ∀ d ∈ ds, Dok n d
  | _ + 1, .dict _ => False
theorem dpAll_len {K : PySem.W.Frag} {H : Hp} : ∀ {vs : List V} {ds : List PyData}, DpAll K H vs ds → vs.length = ds.length
  | _, _, .nil => rfl
  | _, _, .cons _ r => congrArg (· + 1) (dpAll_len r)
theorem dpAll_get {K : PySem.W.Frag} {H : Hp} : ∀ {vs : List V} {ds : List PyData} {i : Nat} {d : PyData}, DpAll K H vs ds → ds[i]? = some d → ∃ v, vs[i]? = some v ∧ Dp K H v d
  | _, _, _, _, .nil, e => by simp at e
  | _, _, 0, d, .cons h _, e => by
    simp at e
    subst e
    exact ⟨_, rfl, h⟩
  | _, _, i + 1, d, .cons _ r, e => by
    obtain ⟨v, h1, h2⟩ := dpAll_get (i := i) r (by simpa using e)
    exact ⟨v, by simpa using h1, h2⟩
theorem tyL {K : PySem.W.Frag} {H : Hp} {a : Addr} {xs : List V} (h : SqL K H a xs) : TyX K H (.ref a) (.type "list") := by
  rcases h with (h | ⟨o, h⟩) | ⟨o, its, n, h, c, _⟩
  · exact .base (.lst h)
  · exact .base (.frz h)
  · exact .kList h c
theorem tyT {K : PySem.W.Frag} {H : Hp} {a : Addr} {xs : List V} (h : SqT K H a xs) : TyX K H (.ref a) (.type "tuple") := by
  rcases h with (h | ⟨o, h⟩) | ⟨o, its, n, h, c, _⟩
  · exact .base (.tup h)
  · exact .fTuple h
  · exact .kTuple h c
theorem isi {K : PySem.W.Frag} {H : Hp} {Q : VK} {x : V} {t c : String} (b : Bool) (ty : TyX K H x (.type t)) (kb : kitB t c = some b) (q : Q (.bl b) H) : rIsi K [x, .ty c] H Q := ⟨x, .ty c, _, _, b, rfl, .ty c, ty, kit_ty kb, q⟩
theorem kb_nt : kitB "NoneType" "tuple" = some false := by decide +kernel
theorem kb_nl : kitB "NoneType" "list" = some false := by decide +kernel
theorem kb_bt : kitB "bool" "tuple" = some false := by decide +kernel
theorem kb_bl : kitB "bool" "list" = some false := by decide +kernel
theorem kb_bb : kitB "bool" "bool" = some true := by decide +kernel
theorem kb_it : kitB "int" "tuple" = some false := by decide +kernel
theorem kb_il : kitB "int" "list" = some false := by decide +kernel
theorem kb_ib : kitB "int" "bool" = some false := by decide +kernel
theorem kb_ii : kitB "int" "int" = some true := by decide +kernel
theorem kb_st : kitB "str" "tuple" = some false := by decide +kernel
theorem kb_sl : kitB "str" "list" = some false := by decide +kernel
theorem kb_sb : kitB "str" "bool" = some false := by decide +kernel
theorem kb_si : kitB "str" "int" = some false := by decide +kernel
theorem kb_ss : kitB "str" "str" = some true := by decide +kernel
theorem kb_tt : kitB "tuple" "tuple" = some true := by decide +kernel
theorem kb_tl : kitB "tuple" "list" = some false := by decide +kernel
theorem kb_lt : kitB "list" "tuple" = some false := by decide +kernel
theorem kb_ll : kitB "list" "list" = some true := by decide +kernel
def spSame (K : PySem.W.Frag) (n : Nat) : Sp := fun vs H Q _ => ∃ (x y : V) (d : PyData), vs = [x, y] ∧ Dp K H x d ∧ Dp K H y d ∧ Dok n d ∧ Q (.bl true) H
section
variable {P : Program} {w : World} {K : PySem.W.Frag} {mg : Str → Option Value} {base : Heap}
theorem ok_l_same0 (T : Txt w K mg) : FnOk P w K mg base CX0 0 T.a_l_same T.d_l_same p_l_same (spSame K 0) := by
  have no : ∀ vs H Q E, ¬ spSame K 0 vs H Q E := fun vs H Q E h => by
    obtain ⟨x, y, d, _, _, _, h, _⟩ := h
    exact h
  exact ⟨fun vs H Q E h => absurd h (no vs H Q E), fun A outer s H args us vs Q E _ _ _ _ h => absurd h (no vs H Q E)⟩
/-- the part for two lists or two tuples -/
theorem same_seq {n : Nat} {H : Hp} {p r : Addr} {xs ys : List V} {ds : List PyData} (h1 : SqL K H p xs ∨ SqT K H p xs) (h2 : SqL K H r ys ∨ SqT K H r ys) (d1 : DpAll K H xs ds) (d2 : DpAll K H ys ds)
    (hd : ∀ d ∈ ds, Dok n d) {i : Nat} (hi : i < ds.length) {R : V → Hp → Prop} (q : R (.bl true) H) :
    tCall (spSame K n) [] E0 (tCons (tOp (rIx K) (tVar 0) (tVar 2)) (tCons (tOp (rIx K) (tVar 1) (tVar 2)) tNil)) [some (.ref p), some (.ref r), some (.int (0 + (i : Int)))] H R := by
  obtain ⟨x, e1, q1⟩ := dpAll_get (i := i) d1 (List.getElem?_eq_getElem hi)
  obtain ⟨y, e2, q2⟩ := dpAll_get (i := i) d2 (List.getElem?_eq_getElem hi)
  have a1 : atI xs (0 + (i : Int)) = some x := by rw [Int.zero_add]; exact atI_nat e1
  have a2 : atI ys (0 + (i : Int)) = some y := by rw [Int.zero_add]; exact atI_nat e2
  have k2 : tOp (rIx K) (tVar 1) (tVar 2) [some (.ref p), some (.ref r), some (.int (0 + (i : Int)))] H (fun v H' => tNil [some (.ref p), some (.ref r), some (.int (0 + (i : Int)))] H' fun vs H'' => spSame K n ((x :: v :: vs) ++ []) H'' R E0) := by
    refine ⟨_, rfl, _, rfl, ?_⟩
    have z : spSame K n [x, y] H R E0 := ⟨x, y, _, rfl, q1, q2, hd _ (List.getElem_mem hi), q⟩
    rcases h2 with h2 | h2
    · exact .inl ⟨r, _, _, _, rfl, rfl, h2, a2, z⟩
    · exact .inr (.inl ⟨r, _, _, _, rfl, rfl, h2, a2, z⟩)
  refine ⟨_, rfl, _, rfl, ?_⟩
  rcases h1 with h1 | h1
  · exact .inl ⟨p, _, _, _, rfl, rfl, h1, a1, k2⟩
  · exact .inr (.inl ⟨p, _, _, _, rfl, rfl, h1, a1, k2⟩)
theorem ok_l_same (T : Txt w K mg) : ∀ n : Nat, FnOk P w K mg base CX0 n T.a_l_same T.d_l_same p_l_same (spSame K n)
  | 0 => ok_l_same0 T
  | n + 1 => by
    have g_l_same := ok_l_same T n
    refine T.F_l_same.ok sc_l_same (fun vs H Q E h => ?_) (fun cdv A outer s H vs Q E hr h => ?_)
    · obtain ⟨x, y, d, rfl, _⟩ := h
      rfl
    obtain ⟨x, y, d, rfl, hx, hy, hd, q⟩ := h
    refine ⟨_, (pss_cons (ps_if (PW.pt (pw_or (pt_val (pe_callB call_isi rfl T.z_isinstance bb_isinstance (pa_cons (pv 1) (pa_cons (pe_bltn (v := .ty "tuple") rfl T.z_tuple bt_tuple rfl) pa_nil)))) (pw_or1 (pt_val (pe_callB call_isi rfl T.z_isinstance bb_isinstance (pa_cons (pv 1) (pa_cons (pe_bltn (v := .ty "list") rfl T.z_list bt_list rfl) pa_nil))))))) (pss_cons (ps_if (PW.pt (pw_or (pt_cmpR op_ne (pe_callB call_isi rfl T.z_isinstance bb_isinstance (pa_cons (pv 1) (pa_cons (pe_bltn (v := .ty "tuple") rfl T.z_tuple bt_tuple rfl) pa_nil))) (pe_callB call_isi rfl T.z_isinstance bb_isinstance (pa_cons (pv 0) (pa_cons (pe_bltn (v := .ty "tuple") rfl T.z_tuple bt_tuple rfl) pa_nil))) (nomark _)) (pw_or1 (pt_cmpR op_ne (pe_callB call_isi rfl T.z_isinstance bb_isinstance (pa_cons (pv 1) (pa_cons (pe_bltn (v := .ty "list") rfl T.z_list bt_list rfl) pa_nil))) (pe_callB call_isi rfl T.z_isinstance bb_isinstance (pa_cons (pv 0) (pa_cons (pe_bltn (v := .ty "list") rfl T.z_list bt_list rfl) pa_nil))) (nomark _))))) (pss_one (ps_ret pe_bl)) pss_nil)
      (pss_cons (ps_if (pt_cmpR op_ne (pe_callB call_len_seq rfl T.z_len PySem.boot_len (pa_cons (pv 0) pa_nil)) (pe_callB call_len_seq rfl T.z_len PySem.boot_len (pa_cons (pv 1) pa_nil)) (nomark _)) (pss_one (ps_ret pe_bl)) pss_nil)
      (pss_cons (ps_for PassesOwn.never rfl (pi_range1 rfl T.z_range (pa_cons (pe_callB call_len_seq rfl T.z_len PySem.boot_len (pa_cons (pv 1) pa_nil)) pa_nil)) (pg_name (i := 2) sc_l_same.nd rfl (Or.inl rfl))
        (pss_one (ps_if (pt_not (pt_val (pe_call g_l_same (hr.mono (by first | decide | omega)) rfl T.m_l_same T.F_l_same.kp T.b_l_same .nil pass0 (pa_cons (pe_ix ix_seq (pv 0) (pv 2) (fun _ _ => rfl)) (pa_cons (pe_ix ix_seq (pv 1) (pv 2) (fun _ _ => rfl)) pa_nil))))) (pss_one (ps_ret pe_bl)) pss_nil)))
      (pss_one (ps_ret pe_bl))))) pss_nil)
      (pss_cons (ps_if (pt_cmpR op_isN (pv 1) pe_non (nomark _)) (pss_one (ps_ret (pe_cmpR op_isN (pv 0) pe_non (nomark _)))) pss_nil)
      (pss_cons (ps_if (pt_val (pe_callB call_isi rfl T.z_isinstance bb_isinstance (pa_cons (pv 1) (pa_cons (pe_bltn (v := .ty "bool") rfl T.z_bool bt_bool rfl) pa_nil)))) (pss_one (ps_ret (pe_and (pe_callB call_isi rfl T.z_isinstance bb_isinstance (pa_cons (pv 0) (pa_cons (pe_bltn (v := .ty "bool") rfl T.z_bool bt_bool rfl) pa_nil))) (pe_one (pe_cmpR op_eq (pv 0) (pv 1) (nomark _)))))) pss_nil)
      (pss_cons (ps_if (pt_val (pe_callB call_isi rfl T.z_isinstance bb_isinstance (pa_cons (pv 1) (pa_cons (pe_bltn (v := .ty "int") rfl T.z_int bt_int rfl) pa_nil)))) (pss_one (ps_ret (pe_and (pe_callB call_isi rfl T.z_isinstance bb_isinstance (pa_cons (pv 0) (pa_cons (pe_bltn (v := .ty "int") rfl T.z_int bt_int rfl) pa_nil))) (pe_and (pe_not (pe_callB call_isi rfl T.z_isinstance bb_isinstance (pa_cons (pv 0) (pa_cons (pe_bltn (v := .ty "bool") rfl T.z_bool bt_bool rfl) pa_nil)))) (pe_one (pe_cmpR op_eq (pv 0) (pv 1) (nomark _))))))) pss_nil)
      (pss_one (ps_ret (pe_and (pe_callB call_isi rfl T.z_isinstance bb_isinstance (pa_cons (pv 0) (pa_cons (pe_bltn (v := .ty "str") rfl T.z_str bt_str rfl) pa_nil))) (pe_one (pe_cmpR op_eq (pv 0) (pv 1) (nomark _)))))))))), ?_⟩
    cases hx with
    | non =>
      cases hy
      refine ⟨_, rfl, _, _, _, _, false, rfl, .ty _, (.base .non), kit_ty kb_nt, ⟨_, rfl, iteF ⟨_, rfl, _, _, _, _, false, rfl, .ty _, (.base .non), kit_ty kb_nl, ⟨_, rfl, iteF ?_⟩⟩⟩⟩
      refine ⟨_, rfl, rfl, _, rfl, iteT ?_⟩
      exact ⟨_, rfl, rfl, q⟩
    | bl b =>
      cases hy
      refine ⟨_, rfl, _, _, _, _, false, rfl, .ty _, (.base (.bl _)), kit_ty kb_bt, ⟨_, rfl, iteF ⟨_, rfl, _, _, _, _, false, rfl, .ty _, (.base (.bl _)), kit_ty kb_bl, ⟨_, rfl, iteF ?_⟩⟩⟩⟩
      refine ⟨_, rfl, rfl, _, rfl, iteF ?_⟩
      refine ⟨_, rfl, _, _, _, _, true, rfl, .ty _, (.base (.bl _)), kit_ty kb_bb, ⟨_, rfl, iteT ?_⟩⟩
      refine ⟨_, rfl, _, _, _, _, true, rfl, .ty _, (.base (.bl _)), kit_ty kb_bb, ⟨_, rfl, iteT ?_⟩⟩
      refine ⟨_, rfl, _, rfl, rfl, ?_⟩
      rw [decide_eq_true rfl]
      exact q
    | int b =>
      cases hy
      refine ⟨_, rfl, _, _, _, _, false, rfl, .ty _, (.base (.int _)), kit_ty kb_it, ⟨_, rfl, iteF ⟨_, rfl, _, _, _, _, false, rfl, .ty _, (.base (.int _)), kit_ty kb_il, ⟨_, rfl, iteF ?_⟩⟩⟩⟩
      refine ⟨_, rfl, rfl, _, rfl, iteF ?_⟩
      refine ⟨_, rfl, _, _, _, _, false, rfl, .ty _, (.base (.int _)), kit_ty kb_ib, ⟨_, rfl, iteF ?_⟩⟩
      refine ⟨_, rfl, _, _, _, _, true, rfl, .ty _, (.base (.int _)), kit_ty kb_ii, ⟨_, rfl, iteT ?_⟩⟩
      refine ⟨_, rfl, _, _, _, _, true, rfl, .ty _, (.base (.int _)), kit_ty kb_ii, ⟨_, rfl, iteT ?_⟩⟩
      refine ⟨_, rfl, _, _, _, _, false, rfl, .ty _, (.base (.int _)), kit_ty kb_ib, ⟨_, rfl, _, rfl, iteT ?_⟩⟩
      refine ⟨_, rfl, _, rfl, rfl, ?_⟩
      rw [decide_eq_true rfl]
      exact q
    | str b =>
      cases hy
      refine ⟨_, rfl, _, _, _, _, false, rfl, .ty _, (.base (.str _)), kit_ty kb_st, ⟨_, rfl, iteF ⟨_, rfl, _, _, _, _, false, rfl, .ty _, (.base (.str _)), kit_ty kb_sl, ⟨_, rfl, iteF ?_⟩⟩⟩⟩
      refine ⟨_, rfl, rfl, _, rfl, iteF ?_⟩
      refine ⟨_, rfl, _, _, _, _, false, rfl, .ty _, (.base (.str _)), kit_ty kb_sb, ⟨_, rfl, iteF ?_⟩⟩
      refine ⟨_, rfl, _, _, _, _, false, rfl, .ty _, (.base (.str _)), kit_ty kb_si, ⟨_, rfl, iteF ?_⟩⟩
      refine ⟨_, rfl, _, _, _, _, true, rfl, .ty _, (.base (.str _)), kit_ty kb_ss, ⟨_, rfl, iteT ?_⟩⟩
      refine ⟨_, rfl, _, rfl, rfl, ?_⟩
      rw [decide_eq_true rfl]
      exact q
    | @lst p xs ds h1 d1 =>
      cases hy with
      | @lst r ys _ h2 d2 =>
      have l1 := dpAll_len d1
      have l2 := dpAll_len d2
      obtain ⟨hlen, hd⟩ := hd
      refine ⟨_, rfl, _, _, _, _, false, rfl, .ty _, (tyL h2), kit_ty kb_lt, ⟨_, rfl, iteF ⟨_, rfl, _, _, _, _, true, rfl, .ty _, (tyL h2), kit_ty kb_ll, ⟨_, rfl, iteT ?_⟩⟩⟩⟩
      refine ⟨_, rfl, _, _, _, _, false, rfl, .ty _, (tyL h2), kit_ty kb_lt, ⟨_, rfl, _, _, _, _, false, rfl, .ty _, (tyL h1), kit_ty kb_lt, ⟨rfl, _, rfl, iteF ?_⟩⟩⟩
      refine ⟨_, rfl, _, _, _, _, true, rfl, .ty _, (tyL h2), kit_ty kb_ll, ⟨_, rfl, _, _, _, _, true, rfl, .ty _, (tyL h1), kit_ty kb_ll, ⟨rfl, _, rfl, iteF ?_⟩⟩⟩
      refine ⟨_, rfl, p, _, rfl, .inl h1, _, rfl, r, _, rfl, .inl h2, rfl, _, rfl, ?_⟩
      refine iteNS (congrArg V.int (by omega)) ?_
      refine ⟨_, rfl, r, _, rfl, .inl h2, _, rfl, by omega, by omega, for_range (lo := 0) (fun i σ H' => H' = H ∧ ∃ v : Option V, σ = [some (.ref p), some (.ref r), v]) ⟨rfl, none, rfl⟩ ?_ ?_⟩
      · rintro i σ H' hi ⟨rfl, v, rfl⟩
        refine same_seq (.inl h1) (.inl h2) d1 d2 hd (by omega) ⟨_, rfl, iteF ?_⟩
        exact ⟨rfl, _, rfl⟩
      · rintro σ H' ⟨rfl, v, rfl⟩
        exact q
    | @tup p xs ds h1 d1 =>
      cases hy with
      | @tup r ys _ h2 d2 =>
      have l1 := dpAll_len d1
      have l2 := dpAll_len d2
      obtain ⟨hlen, hd⟩ := hd
      refine ⟨_, rfl, _, _, _, _, true, rfl, .ty _, (tyT h2), kit_ty kb_tt, ⟨_, rfl, iteT ?_⟩⟩
      refine ⟨_, rfl, _, _, _, _, true, rfl, .ty _, (tyT h2), kit_ty kb_tt, ⟨_, rfl, _, _, _, _, true, rfl, .ty _, (tyT h1), kit_ty kb_tt, ⟨rfl, _, rfl, iteF ?_⟩⟩⟩
      refine ⟨_, rfl, _, _, _, _, false, rfl, .ty _, (tyT h2), kit_ty kb_tl, ⟨_, rfl, _, _, _, _, false, rfl, .ty _, (tyT h1), kit_ty kb_tl, ⟨rfl, _, rfl, iteF ?_⟩⟩⟩
      refine ⟨_, rfl, p, _, rfl, .inr h1, _, rfl, r, _, rfl, .inr h2, rfl, _, rfl, ?_⟩
      refine iteNS (congrArg V.int (by omega)) ?_
      refine ⟨_, rfl, r, _, rfl, .inr h2, _, rfl, by omega, by omega, for_range (lo := 0) (fun i σ H' => H' = H ∧ ∃ v : Option V, σ = [some (.ref p), some (.ref r), v]) ⟨rfl, none, rfl⟩ ?_ ?_⟩
      · rintro i σ H' hi ⟨rfl, v, rfl⟩
        refine same_seq (.inr h1) (.inr h2) d1 d2 hd (by omega) ⟨_, rfl, iteF ?_⟩
        exact ⟨rfl, _, rfl⟩
      · rintro σ H' ⟨rfl, v, rfl⟩
        exact q
end
/-! ### rows and matrices of whole numbers -/
open ZG (Sq ItzG walk_zipG)
theorem Sq.same {K : PySem.W.Frag} {t : Bool} {p : Addr} {H H' : Hp} {xs : List V} (s : Same H H') (h : Sq t K H p xs) : Sq t K H' p xs := by
  cases t
  · exact s.seq h
  · exact Same.tup s h
theorem Sq.upd_same {K : PySem.W.Frag} {p : Addr} {H : Hp} {xs : List V} : Sq false K (upd H p (.lst xs)) p xs := SqL.of L2.upd_same
theorem Sq.upd_sameT {K : PySem.W.Frag} {p : Addr} {H : Hp} {xs : List V} : Sq true K (upd H p (.tup xs)) p xs := SqT.of L2.upd_same
/-- what stood stands but at D -/
def But (D : Addr) (H H' : Hp) : Prop := ∀ b o, b ≠ D → H b = some o → H' b = some o
theorem But.of_same {D : Addr} {H H' : Hp} (s : Same H H') : But D H H' := fun b o _ e => s b o e
theorem But.upd {D : Addr} {H : Hp} (o : HO) : But D H (upd H D o) := fun b u ne e => by rw [upd_ne ne]; exact e
theorem But.trans {D : Addr} {H H1 H2 : Hp} (a : But D H H1) (b : But D H1 H2) : But D H H2 := fun c o ne e => b c o ne (a c o ne e)
theorem Sq.but {K : PySem.W.Frag} {t : Bool} {p D : Addr} {H H' : Hp} {xs : List V} (s : But D H H') (ne : p ≠ D) (h : Sq t K H p xs) : Sq t K H' p xs := by
  cases t
  · rcases h with (h | ⟨o, h⟩) | h
    · exact .inl (.inl (s _ _ ne h))
    · exact .inl (.inr ⟨o, s _ _ ne h⟩)
    · exact .inr h
  · rcases h with (h | ⟨o, h⟩) | h
    · exact .inl (.inl (s _ _ ne h))
    · exact .inl (.inr ⟨o, s _ _ ne h⟩)
    · exact .inr h
/-- a matrix at p: rows of kind t2 in a row of kind t1 -/
def Mx (t1 t2 : Bool) (K : PySem.W.Frag) (H : Hp) (p : Addr) (M : List (List Int)) : Prop :=
  ∃ as : List Addr, Sq t1 K H p (as.map V.ref) ∧ as.length = M.length ∧ ∀ (i : Nat) (a : Addr) (r : List Int), as[i]? = some a → M[i]? = some r → Sq t2 K H a (r.map V.int)
theorem Mx.same {t1 t2 : Bool} {K : PySem.W.Frag} {H H' : Hp} {p : Addr} {M : List (List Int)} (s : Same H H') (h : Mx t1 t2 K H p M) : Mx t1 t2 K H' p M := by
  obtain ⟨as, h1, h2, h3⟩ := h
  exact ⟨as, Sq.same s h1, h2, fun i a r e1 e2 => Sq.same s (h3 i a r e1 e2)⟩
/-- its i-th row -/
theorem Mx.row {t1 t2 : Bool} {K : PySem.W.Frag} {H : Hp} {p : Addr} {M : List (List Int)} (h : Mx t1 t2 K H p M) : ∃ vs : List V, Sq t1 K H p vs ∧ vs.length = M.length ∧ ∀ (i : Nat) (v : V), vs[i]? = some v → ∃ (a : Addr) (r : List Int), v = .ref a ∧ M[i]? = some r ∧ Sq t2 K H a (r.map V.int) := by
  obtain ⟨as, h1, h2, h3⟩ := h
  refine ⟨as.map V.ref, h1, by rw [List.length_map]; exact h2, fun i v e => ?_⟩
  rw [List.getElem?_map] at e
  cases ea : as[i]? with
  | none => rw [ea] at e; cases e
  | some a =>
    rw [ea] at e
    cases e
    have hi : i < M.length := by
      have := (List.getElem?_eq_some_iff.mp ea).1
      omega
    exact ⟨a, M[i], rfl, List.getElem?_eq_getElem hi, h3 i a _ ea (List.getElem?_eq_getElem hi)⟩
theorem refs_of {K : PySem.W.Frag} {t2 : Bool} {H : Hp} : ∀ {ys : List V} {M : List (List Int)}, ys.length = M.length → (∀ (j : Nat) (y : V), ys[j]? = some y → ∃ (a : Addr) (r : List Int), y = .ref a ∧ M[j]? = some r ∧ Sq t2 K H a (r.map V.int)) →
    ∃ as : List Addr, ys = as.map V.ref ∧ as.length = M.length ∧ ∀ (i : Nat) (a : Addr) (r : List Int), as[i]? = some a → M[i]? = some r → Sq t2 K H a (r.map V.int)
  | [], [], _, _ => ⟨[], rfl, rfl, fun i a r e => by simp at e⟩
  | [], _ :: _, h, _ => by simp at h
  | _ :: _, [], h, _ => by simp at h
  | y :: ys, r :: M, h, k => by
    obtain ⟨as, e1, e2, e3⟩ := refs_of (ys := ys) (M := M) (by simpa using h) (fun j z e => by
      obtain ⟨a, r', h1, h2, h3⟩ := k (j + 1) z (by simpa using e)
      exact ⟨a, r', h1, by simpa using h2, h3⟩)
    obtain ⟨a, r', h1, h2, h3⟩ := k 0 y rfl
    have er : r = r' := by simpa using h2
    subst er
    subst h1 e1
    refine ⟨a :: as, rfl, by simp [e2], fun i b q e4 e5 => ?_⟩
    cases i with
    | zero =>
      cases e4
      cases e5
      exact h3
    | succ i => exact e3 i b q (by simpa using e4) (by simpa using e5)
theorem Mx.of {t1 t2 : Bool} {K : PySem.W.Frag} {H : Hp} {p : Addr} {ys : List V} {M : List (List Int)} (h : Sq t1 K H p ys) (l : ys.length = M.length) (k : ∀ (j : Nat) (y : V), ys[j]? = some y → ∃ (a : Addr) (r : List Int), y = .ref a ∧ M[j]? = some r ∧ Sq t2 K H a (r.map V.int)) : Mx t1 t2 K H p M := by
  obtain ⟨as, rfl, e2, e3⟩ := refs_of l k
  exact ⟨as, h, e2, e3⟩
theorem ys_ints {ns : List Int} : ∀ {ys : List V}, ys.length = ns.length → (∀ (j : Nat) (y : V), ys[j]? = some y → ∃ c, ns[j]? = some c ∧ y = .int c) → ys = ns.map V.int := by
  induction ns with
  | nil =>
    intro ys l _
    cases ys with
    | nil => rfl
    | cons _ _ => simp at l
  | cons n ns ih =>
    intro ys l k
    cases ys with
    | nil => simp at l
    | cons y ys =>
      obtain ⟨c, h1, h2⟩ := k 0 y rfl
      have e : n = c := by simpa using h1
      subst e h2
      rw [ih (ys := ys) (by simpa using l) (fun j z e => by
        obtain ⟨c, h1, h2⟩ := k (j + 1) z (by simpa using e)
        exact ⟨c, by simpa using h1, h2⟩)]
      rfl
/-- tuple(..) of a list or a tuple -/
def rTupOf (K : PySem.W.Frag) : List V → Hp → VK → Prop := fun xs H Q => ∃ p ys, xs = [.ref p] ∧ ((SqL K H p ys ∧ ∀ l, H l = none → Q (.ref l) (upd H l (.tup ys))) ∨ (SqT K H p ys ∧ Q (.ref p) H))
def rLenOf (K : PySem.W.Frag) : List V → Hp → VK → Prop := fun xs H Q => ∃ p ys, xs = [.ref p] ∧ (SqL K H p ys ∨ SqT K H p ys) ∧ Q (.int ys.length) H
/-- as data -/
def rowD (r : List Int) : PyData := .tuple (r.map PyData.int)
def matD (M : List (List Int)) : PyData := .tuple (M.map rowD)
theorem dp_ints {K : PySem.W.Frag} {H : Hp} : ∀ r : List Int, DpAll K H (r.map V.int) (r.map PyData.int)
  | [] => .nil
  | _ :: r => .cons (.int _) (dp_ints r)
theorem dp_rows {K : PySem.W.Frag} {H : Hp} : ∀ {as : List Addr} {M : List (List Int)}, as.length = M.length → (∀ (i : Nat) (a : Addr) (r : List Int), as[i]? = some a → M[i]? = some r → Sq true K H a (r.map V.int)) → DpAll K H (as.map V.ref) (M.map rowD)
  | [], [], _, _ => .nil
  | [], _ :: _, h, _ => by simp at h
  | _ :: _, [], h, _ => by simp at h
  | a :: as, r :: M, h, k => .cons (.tup (k 0 a r rfl rfl) (dp_ints r)) (dp_rows (by simpa using h) fun i b q e1 e2 => k (i + 1) b q (by simpa using e1) (by simpa using e2))
theorem Mx.dp {K : PySem.W.Frag} {H : Hp} {p : Addr} {M : List (List Int)} (h : Mx true true K H p M) : Dp K H (.ref p) (matD M) := by
  obtain ⟨as, h1, h2, h3⟩ := h
  exact .tup h1 (dp_rows h2 h3)
/-- all its rows have n numbers, n of them -/
def Sz (n : Nat) (M : List (List Int)) : Prop := M.length = n ∧ ∀ r ∈ M, r.length = n
theorem Sz.dok {n : Nat} {M : List (List Int)} (h : Sz n M) (hn : n ≤ 1000) : Dok 3 (matD M) := by
  refine ⟨by rw [List.length_map, h.1]; omega, fun d hd => ?_⟩
  obtain ⟨r, hr, rfl⟩ := List.mem_map.mp hd
  refine ⟨by rw [List.length_map, h.2 r hr]; omega, fun d hd => ?_⟩
  obtain ⟨c, _, rfl⟩ := List.mem_map.mp hd
  trivial
/-- a box: None, or a matrix -/
def BoxAt (K : PySem.W.Frag) (H : Hp) (v : V) : Option (List (List Int)) → Prop
  | none => v = .non
  | some M => ∃ p, v = .ref p ∧ Mx true true K H p M
def boxD : Option (List (List Int)) → PyData
  | none => .none
  | some M => matD M
theorem BoxAt.same {K : PySem.W.Frag} {H H' : Hp} {v : V} {B : Option (List (List Int))} (s : Same H H') (h : BoxAt K H v B) : BoxAt K H' v B := by
  cases B with
  | none => exact h
  | some M =>
    obtain ⟨p, e, h⟩ := h
    exact ⟨p, e, h.same s⟩
theorem BoxAt.dp {K : PySem.W.Frag} {H : Hp} {v : V} {B : Option (List (List Int))} (h : BoxAt K H v B) : Dp K H v (boxD B) := by
  cases B with
  | none =>
    obtain rfl : v = .non := h
    exact .non
  | some M =>
    obtain ⟨p, rfl, h⟩ := h
    exact h.dp
def BSz (n : Nat) (B : Option (List (List Int))) : Prop := ∀ M, B = some M → Sz n M
theorem BSz.dok {n : Nat} {B : Option (List (List Int))} (h : BSz n B) (hn : n ≤ 1000) : Dok 3 (boxD B) := by
  cases B with
  | none => trivial
  | some M => exact (h M rfl).dok hn
/-! ### comprehensions that leave what stood -/
def LcP (S : Hp → Prop) (R : Nat → V → Hp → Prop) (D : Addr) (i : Nat) (H : Hp) : Prop := S H ∧ ∃ acc : List V, H D = some (.lst acc) ∧ acc.length = i ∧ ∀ (j : Nat) (y : V), acc[j]? = some y → R j y H
theorem lcp_step {S : Hp → Prop} {R : Nat → V → Hp → Prop} {D : Addr} {i : Nat} {H H4 : Hp} {y : V} (P : LcP S R D i H) (e : ∀ o, H D = some o → H4 D = some o) (hi : i < sizeLine) (s : ∀ o, S (upd H4 D o)) (m : ∀ (j : Nat) (z : V) (o : HO), R j z H → R j z (upd H4 D o)) (r : ∀ o, R i y (upd H4 D o)) :
    ∃ acc, H4 D = some (.lst acc) ∧ acc.length < sizeLine ∧ LcP S R D (i + 1) (upd H4 D (.lst (acc ++ [y]))) := by
  obtain ⟨_, acc, h1, h2, h3⟩ := P
  refine ⟨acc, e _ h1, by omega, s _, _, upd_same, by simp [h2], fun j z ez => ?_⟩
  by_cases hj : j < i
  · rw [List.getElem?_append_left (by omega)] at ez
    exact m j z _ (h3 j z ez)
  · rw [List.getElem?_append_right (by omega)] at ez
    have ej : j = i := by
      have := (List.getElem?_eq_some_iff.mp ez).1
      simp at this
      omega
    subst ej
    rw [h2, Nat.sub_self] at ez
    have ez' : y = z := by simpa using ez
    rw [← ez']
    exact r _
/-- what the step of a comprehension that only makes new objects is to reach -/
theorem lcp_same {R : Nat → V → Hp → Prop} {D : Addr} {i : Nat} {H1 H H4 : Hp} {y : V} (P : LcP (Same H1) R D i H) (hD : H1 D = none) (s : Same H H4) (hi : i < sizeLine) (mono : ∀ (j : Nat) (z : V) (G G' : Hp), R j z G → But D G G' → R j z G') (r : R i y H4) :
    ∃ acc, H4 D = some (.lst acc) ∧ acc.length < sizeLine ∧ LcP (Same H1) R D (i + 1) (upd H4 D (.lst (acc ++ [y]))) :=
  lcp_step P (fun o e => s _ _ e) hi (fun o b u e => by rw [upd_ne (ne_of_none e hD)]; exact s _ _ (P.1 _ _ e)) (fun j z o q => mono j z _ _ q ((But.of_same s).trans (But.upd o))) fun o => mono i y _ _ r (But.upd o)
theorem lcp_start {R : Nat → V → Hp → Prop} {D : Addr} {H1 : Hp} (hD : H1 D = none) : LcP (Same H1) R D 0 (upd H1 D (.lst [])) :=
  ⟨fun b u e => by rw [upd_ne (ne_of_none e hD)]; exact e, [], upd_same, rfl, fun j y e => by simp at e⟩
/-- its numbers -/
def RInt (ns : List Int) : Nat → V → Hp → Prop := fun j y _ => ∃ c, ns[j]? = some c ∧ y = .int c
theorem RInt.mono {ns : List Int} {D : Addr} : ∀ (j : Nat) (z : V) (G G' : Hp), RInt ns j z G → But D G G' → RInt ns j z G' := fun _ _ _ _ h _ => h
/-- its rows -/
def RRow (K : PySem.W.Frag) (t : Bool) (M : List (List Int)) (D : Addr) : Nat → V → Hp → Prop := fun j y H => ∃ (a : Addr) (r : List Int), y = .ref a ∧ M[j]? = some r ∧ a ≠ D ∧ Sq t K H a (r.map V.int)
theorem RRow.mono {K : PySem.W.Frag} {t : Bool} {M : List (List Int)} {D : Addr} : ∀ (j : Nat) (z : V) (G G' : Hp), RRow K t M D j z G → But D G G' → RRow K t M D j z G' := by
  rintro j z G G' ⟨a, r, h1, h2, h3, h4⟩ b
  exact ⟨a, r, h1, h2, h3, Sq.but b h3 h4⟩
theorem lcp_ints {K : PySem.W.Frag} {S : Hp → Prop} {ns : List Int} {D : Addr} {n : Nat} {H : Hp} (P : LcP S (RInt ns) D n H) (hn : n = ns.length) : H D = some (.lst (ns.map V.int)) := by
  obtain ⟨_, acc, h1, h2, h3⟩ := P
  rw [h1, ys_ints (ns := ns) (by omega) h3]
theorem lcp_rows {K : PySem.W.Frag} {S : Hp → Prop} {t : Bool} {M : List (List Int)} {D : Addr} {n : Nat} {H : Hp} (P : LcP S (RRow K t M D) D n H) (hn : n = M.length) : Mx false t K H D M := by
  obtain ⟨_, acc, h1, h2, h3⟩ := P
  exact Mx.of (t1 := false) (SqL.of h1) (by omega) fun j y e => by
    obtain ⟨a, r, q1, q2, _, q3⟩ := h3 j y e
    exact ⟨a, r, q1, q2, q3⟩
theorem LcP.ne {S : Hp → Prop} {R : Nat → V → Hp → Prop} {D l : Addr} {i : Nat} {H : Hp} (P : LcP S R D i H) (hl : H l = none) : l ≠ D := by
  obtain ⟨_, acc, h, _⟩ := P
  exact fun z => absurd (z ▸ hl) (by rw [h]; intro z; cases z)
theorem lt_line {n : Nat} (h : n ≤ 10000000) : n < sizeLine := by rw [sizeLine_eq]; omega
/-- a comprehension without a test -/
theorem tyes {σ : L2.St} {H : Hp} {A B : Hp → Prop} (h : A H) : tYes σ H (fun b H3 => if b = true then A H3 else B H3) := by
  show if true = true then A H else B H
  rw [if_pos rfl]
  exact h
theorem get_int {r : List Int} {j : Nat} {v : V} (e : (r.map V.int)[j]? = some v) : ∃ k, r[j]? = some k ∧ v = .int k := by
  rw [List.getElem?_map] at e
  cases h : r[j]? with
  | none => rw [h] at e; cases e
  | some k => rw [h] at e; cases e; exact ⟨k, rfl, rfl⟩
theorem Sz.get {n i : Nat} {M : List (List Int)} {r : List Int} (h : Sz n M) (e : M[i]? = some r) : r.length = n := h.2 r (List.mem_of_getElem? e)
theorem zw_get {α β γ : Type} {f : α → β → γ} {xs : List α} {ys : List β} {i : Nat} {x : α} {y : β} (e1 : xs[i]? = some x) (e2 : ys[i]? = some y) : (List.zipWith f xs ys)[i]? = some (f x y) := by
  rw [List.getElem?_zipWith, e1, e2]
theorem lcp_put {R : Nat → V → Hp → Prop} {D : Addr} {i : Nat} {H1 H H4 : Hp} {y : V} {acc : List V} (P : LcP (Same H1) R D i H) (e : H D = some (.lst acc)) (hD : H1 D = none) (s : Same H H4) (hi : i < sizeLine) (mono : ∀ (j : Nat) (z : V) (G G' : Hp), R j z G → But D G G' → R j z G') (r : R i y H4) :
    LcP (Same H1) R D (i + 1) (upd H4 D (.lst (acc ++ [y]))) := by
  obtain ⟨acc', h1, _, h3⟩ := lcp_same P hD s hi mono r
  have := s _ _ e
  rw [this] at h1
  cases h1
  exact h3
/-- (0,) and the numbers of a row -/
theorem cat0 {K : PySem.W.Frag} {H : Hp} {t a : Addr} {r : List Int} {Q : VK} (h1 : SqT K H t [.int 0]) (h2 : SqT K H a (r.map V.int)) (hz : r.length ≤ 1000) (q : ∀ z H', Same H H' → SqT K H' z ((0 :: r).map V.int) → Q (.ref z) H') : rCatT K (.ref t) (.ref a) H Q := by
  refine ⟨t, a, _, _, rfl, rfl, h1, h2, by simp, ?_, fun e => ?_, fun ne p hp => ?_⟩
  · rw [List.length_map, sizeLine_eq]
    simp
    omega
  · have e' : r = [] := List.map_eq_nil_iff.mp e
    subst e'
    exact q t H (Same.refl H) h1
  · exact q p _ (Same.new hp _) (SqT.of upd_same)
theorem atI_row {r : List Int} {i : Nat} (h : i < r.length) : atI (r.map V.int) (0 + (i : Int)) = some (.int (r.getD i 0)) := by
  rw [Int.zero_add]
  refine atI_nat ?_
  rw [List.getElem?_map, List.getElem?_eq_getElem h]
  simp [List.getD, h]
theorem LcP.acc {S : Hp → Prop} {R : Nat → V → Hp → Prop} {D : Addr} {i : Nat} {H : Hp} (P : LcP S R D i H) : ∃ acc : List V, H D = some (.lst acc) ∧ acc.length = i := by
  obtain ⟨_, acc, h1, h2, _⟩ := P
  exact ⟨acc, h1, h2⟩
theorem map_get {α β : Type} {f : α → β} {xs : List α} {i : Nat} {x : α} (e : xs[i]? = some x) : (xs.map f)[i]? = some (f x) := by rw [List.getElem?_map, e]; rfl
open ZG (Sq ItzG walk_zipG)
/-! ### entries of a matrix -/
def getM (M : List (List Int)) (i j : Nat) : Int := (M.getD i []).getD j 0
theorem getM_of {M : List (List Int)} {i j : Nat} {r : List Int} {k : Int} (h1 : M[i]? = some r) (h2 : r[j]? = some k) : getM M i j = k := by
  simp [getM, List.getD_eq_getElem?_getD, h1, h2]
theorem Sz.at {n i : Nat} {M : List (List Int)} (h : Sz n M) (hi : i < n) : ∃ r, M[i]? = some r ∧ r.length = n := by
  have hi' : i < M.length := by rw [h.1]; exact hi
  exact ⟨M[i], List.getElem?_eq_getElem hi', h.2 _ (List.getElem_mem hi')⟩
theorem Sz.at2 {n i j : Nat} {M : List (List Int)} (h : Sz n M) (hi : i < n) (hj : j < n) : ∃ r, M[i]? = some r ∧ r.length = n ∧ r[j]? = some (getM M i j) := by
  obtain ⟨r, e, l⟩ := h.at hi
  have hj' : j < r.length := by omega
  refine ⟨r, e, l, ?_⟩
  rw [getM_of e (List.getElem?_eq_getElem hj')]
  exact List.getElem?_eq_getElem hj'
theorem split_lt {n : Nat} {c : Nat → Prop} : (∀ i < n + 1, c i) ↔ (∀ i < n, c i) ∧ c n := by
  constructor
  · exact fun h => ⟨fun i hi => h i (by omega), h n (by omega)⟩
  · rintro ⟨h1, h2⟩ i hi
    by_cases e : i = n
    · rw [e]; exact h2
    · exact h1 i (by omega)
theorem ixN_int {n : Nat} {c : Int} (h0 : 0 ≤ c) (h : c < (n : Int)) : ixN n c = some c.toNat := by
  unfold ixN
  rw [if_pos h0, if_pos h]
/-! ### closed matrices, and the best one below a matrix -/
def mkR (n : Nat) (f : Nat → Int) : List Int := (List.range n).map f
def mkM (n : Nat) (f : Nat → Nat → Int) : List (List Int) := (List.range n).map fun i => mkR n (f i)
theorem range_at {n i : Nat} (h : i < n) : (List.range n)[i]? = some i := by simp [h]
theorem mkR_at {n i : Nat} {f : Nat → Int} (h : i < n) : (mkR n f)[i]? = some (f i) := map_get (range_at h)
theorem mkM_at {n i : Nat} {f : Nat → Nat → Int} (h : i < n) : (mkM n f)[i]? = some (mkR n (f i)) := map_get (range_at h)
theorem mkR_len {n : Nat} {f : Nat → Int} : (mkR n f).length = n := by simp [mkR]
theorem mkM_sz {n : Nat} {f : Nat → Nat → Int} : Sz n (mkM n f) := by
  refine ⟨by simp [mkM], fun r hr => ?_⟩
  obtain ⟨i, _, rfl⟩ := List.mem_map.mp hr
  exact mkR_len
theorem mkM_get {n i j : Nat} {f : Nat → Nat → Int} (hi : i < n) (hj : j < n) : getM (mkM n f) i j = f i j := getM_of (mkM_at hi) (mkR_at hj)
theorem sz_ext {n : Nat} {M N : List (List Int)} (h1 : Sz n M) (h2 : Sz n N) (e : ∀ i < n, ∀ j < n, getM M i j = getM N i j) : M = N := by
  refine List.ext_getElem? fun i => ?_
  by_cases hi : i < n
  · obtain ⟨r, e1, l1⟩ := h1.at hi
    obtain ⟨r', e2, l2⟩ := h2.at hi
    rw [e1, e2]
    congr 1
    refine List.ext_getElem? fun j => ?_
    by_cases hj : j < n
    · have a1 : r[j]? = some (r[j]'(by omega)) := List.getElem?_eq_getElem _
      have a2 : r'[j]? = some (r'[j]'(by omega)) := List.getElem?_eq_getElem _
      rw [a1, a2, ← getM_of e1 a1, ← getM_of e2 a2, e i hi j hj]
    · rw [List.getElem?_eq_none (by omega), List.getElem?_eq_none (by omega)]
  · rw [List.getElem?_eq_none (by rw [h1.1]; omega), List.getElem?_eq_none (by rw [h2.1]; omega)]
theorem mkM_congr {n : Nat} {f g : Nat → Nat → Int} (h : ∀ i < n, ∀ j < n, f i j = g i j) : mkM n f = mkM n g := sz_ext mkM_sz mkM_sz fun i hi j hj => by rw [mkM_get hi hj, mkM_get hi hj, h i hi j hj]
theorem mkM_self {n : Nat} {M : List (List Int)} (h : Sz n M) : mkM n (getM M) = M := sz_ext mkM_sz h fun i hi j hj => mkM_get hi hj
structure Clo (n : Nat) (C : Nat → Nat → Int) : Prop where
  d : ∀ i < n, C i i = 0
  t : ∀ i < n, ∀ j < n, ∀ k < n, C i j ≤ C i k + C k j
def LeF (n : Nat) (C D : Nat → Nat → Int) : Prop := ∀ i < n, ∀ j < n, C i j ≤ D i j
theorem LeF.trans {n : Nat} {A B C : Nat → Nat → Int} (h : LeF n A B) (k : LeF n B C) : LeF n A C := fun i hi j hj => Int.le_trans (h i hi j hj) (k i hi j hj)
theorem LeF.refl {n : Nat} (A : Nat → Nat → Int) : LeF n A A := fun _ _ _ _ => Int.le_refl _
/-- the greatest closed matrix below D; none if there is no closed one below D -/
def Best (n : Nat) (D : Nat → Nat → Int) : Option (List (List Int)) → Prop
  | none => ∀ C, Clo n C → ¬ LeF n C D
  | some R => Sz n R ∧ Clo n (getM R) ∧ LeF n (getM R) D ∧ ∀ C, Clo n C → LeF n C D → LeF n C (getM R)
theorem Best.sz {n : Nat} {D : Nat → Nat → Int} {B : Option (List (List Int))} (h : Best n D B) : BSz n B := by
  intro M e
  subst e
  exact h.1
theorem Best.uniq {n : Nat} {D : Nat → Nat → Int} : ∀ {B B' : Option (List (List Int))}, Best n D B → Best n D B' → B = B'
  | none, none, _, _ => rfl
  | none, some R, h, k => absurd k.2.2.1 (h _ k.2.1)
  | some R, none, h, k => absurd h.2.2.1 (k _ h.2.1)
  | some R, some R', h, k => by
    have e : R = R' := sz_ext h.1 k.1 fun i hi j hj => by
      have h1 := k.2.2.2 _ h.2.1 h.2.2.1 i hi j hj
      have h2 := h.2.2.2 _ k.2.1 k.2.2.1 i hi j hj
      omega
    rw [e]
/-- only what is closed and below counts -/
theorem Best.congr {n : Nat} {D E : Nat → Nat → Int} (h : ∀ C, Clo n C → (LeF n C D ↔ LeF n C E)) : ∀ {B : Option (List (List Int))}, Best n D B → Best n E B
  | none, k => fun C hC hE => k C hC ((h C hC).mpr hE)
  | some R, k => ⟨k.1, k.2.1, (h _ k.2.1).mp k.2.2.1, fun C hC hE => k.2.2.2 C hC ((h C hC).mpr hE)⟩
theorem Best.self {n : Nat} {R : List (List Int)} (z : Sz n R) (c : Clo n (getM R)) : Best n (getM R) (some R) := ⟨z, c, LeF.refl _, fun _ _ h => h⟩
/-! ### shortening through each column in turn -/
def fw0 (n : Nat) (D : Nat → Nat → Int) : Nat → Nat → Int := fun i j => if i = j then min (D i j) 0 else D i j
def fwS (k : Nat) (D : Nat → Nat → Int) : Nat → Nat → Int := fun i j => min (D i j) (D i k + D k j)
/-- what holds ahead of the turn with column k -/
structure Fw (n : Nat) (D0 : Nat → Nat → Int) (k : Nat) (D : Nat → Nat → Int) : Prop where
  d : ∀ i < n, D i i ≤ 0
  le : LeF n D D0
  gr : ∀ C, Clo n C → LeF n C D0 → LeF n C D
  t : (∀ i < n, 0 ≤ D i i) → ∀ m < k, ∀ i < n, ∀ j < n, D i j ≤ D i m + D m j
theorem Fw.start {n : Nat} (D0 : Nat → Nat → Int) : Fw n D0 0 (fw0 n D0) where
  d := fun i hi => by
    unfold fw0
    rw [if_pos rfl]
    omega
  le := fun i hi j hj => by
    unfold fw0
    split <;> omega
  gr := fun C hC h i hi j hj => by
    unfold fw0
    have a := h i hi j hj
    split
    · rename_i e
      subst e
      have b := hC.d i hi
      omega
    · exact a
  t := fun _ m hm => by omega
theorem Fw.step {n k : Nat} {D0 D : Nat → Nat → Int} (h : Fw n D0 k D) (hk : k < n) (pos : ∀ i < n, 0 ≤ D i i) : Fw n D0 (k + 1) (fwS k D) where
  d := fun i hi => by
    have a := h.d i hi
    unfold fwS
    omega
  le := fun i hi j hj => by
    have a := h.le i hi j hj
    unfold fwS
    omega
  gr := fun C hC hl i hi j hj => by
    have a := h.gr C hC hl i hi j hj
    have b := h.gr C hC hl i hi k hk
    have c := h.gr C hC hl k hk j hj
    have e := hC.t i hi j hj k hk
    unfold fwS
    omega
  t := fun _ m hm i hi j hj => by
    have T := h.t pos
    have pk := pos k hk
    unfold fwS
    by_cases e : m = k
    · subst e
      omega
    · have hmk : m < k := by omega
      have mn : m < n := by omega
      have a1 := T m hmk i hi j hj
      have a2 := T m hmk k hk j hj
      have a3 := T m hmk i hi k hk
      have a4 := T m hmk k hk k hk
      omega
theorem Fw.done {n : Nat} {D0 D : Nat → Nat → Int} (h : Fw n D0 n D) (pos : ∀ i < n, 0 ≤ D i i) : Best n D0 (some (mkM n D)) := by
  have c : Clo n (getM (mkM n D)) := ⟨fun i hi => by
    rw [mkM_get hi hi]
    have := pos i hi
    have := h.d i hi
    omega, fun i hi j hj k hk => by
    rw [mkM_get hi hj, mkM_get hi hk, mkM_get hk hj]
    exact h.t pos k hk i hi j hj⟩
  refine ⟨mkM_sz, c, fun i hi j hj => ?_, fun C hC hl i hi j hj => ?_⟩
  · rw [mkM_get hi hj]
    exact h.le i hi j hj
  · rw [mkM_get hi hj]
    exact h.gr C hC hl i hi j hj
theorem Fw.bad {n k i : Nat} {D0 D : Nat → Nat → Int} (h : Fw n D0 k D) (hi : i < n) (neg : D i i < 0) : Best n D0 none := fun C hC hl => by
  have a := h.gr C hC hl i hi i hi
  have b := hC.d i hi
  omega
theorem Fw.congr {n k : Nat} {D0 D E : Nat → Nat → Int} (h : Fw n D0 k D) (hk : k ≤ n) (e : ∀ i < n, ∀ j < n, D i j = E i j) : Fw n D0 k E where
  d := fun i hi => by rw [← e i hi i hi]; exact h.d i hi
  le := fun i hi j hj => by rw [← e i hi j hj]; exact h.le i hi j hj
  gr := fun C hC hl i hi j hj => by rw [← e i hi j hj]; exact h.gr C hC hl i hi j hj
  t := fun pos m hm i hi j hj => by
    have mn : m < n := by omega
    rw [← e i hi j hj, ← e i hi m mn, ← e m mn j hj]
    exact h.t (fun i hi => by rw [e i hi i hi]; exact pos i hi) m hm i hi j hj
/-! ### close -/
theorem bb_any : bootBuiltins "any" = some (.builtin "any") := by decide +kernel
theorem bb_all : bootBuiltins "all" = some (.builtin "all") := by decide +kernel
def spFrozen (K : PySem.W.Frag) : Sp := fun vs H Q _ => ∃ (p : Addr) (M : List (List Int)), vs = [.ref p] ∧ Mx false false K H p M ∧ M.length ≤ 1000 ∧ ∀ q H', Same H H' → Mx true true K H' q M → Q (.ref q) H'
def spContra (K : PySem.W.Frag) : Sp := fun vs H Q _ => ∃ (p : Addr) (M : List (List Int)) (n : Nat), vs = [.ref p] ∧ Mx false false K H p M ∧ Sz n M ∧ n ≤ 900 ∧ ∀ b H', Same H H' → (b = true ↔ ∃ i < n, getM M i i < 0) → Q (.bl b) H'
def spShort (K : PySem.W.Frag) : Sp := fun vs H Q _ => ∃ (p : Addr) (M : List (List Int)) (n k : Nat), vs = [.ref p, .int k] ∧ Mx false false K H p M ∧ Sz n M ∧ n ≤ 900 ∧ k < n ∧ ∀ q H', Same H H' → Mx false false K H' q (mkM n (fwS k (getM M))) → Q (.ref q) H'
def spClose (K : PySem.W.Frag) : Sp := fun vs H Q _ => ∃ (t1 t2 : Bool) (p : Addr) (M : List (List Int)) (n : Nat), vs = [.ref p] ∧ Mx t1 t2 K H p M ∧ Sz n M ∧ n ≤ 900 ∧ ∀ v H' B, Same H H' → BoxAt K H' v B → Best n (getM M) B → Q v H'
theorem Mx.getT {t1 t2 : Bool} {K : PySem.W.Frag} {H : Hp} {p : Addr} {M : List (List Int)} {i : Nat} {r : List Int} (h : Mx t1 t2 K H p M) (e : M[i]? = some r) : ∃ (vs : List V) (a : Addr), Sq t1 K H p vs ∧ atI vs (i : Int) = some (.ref a) ∧ Sq t2 K H a (r.map V.int) := by
  obtain ⟨as, h1, h2, h3⟩ := h
  have hi : i < M.length := (List.getElem?_eq_some_iff.mp e).1
  have ea : as[i]? = some (as[i]'(by omega)) := List.getElem?_eq_getElem _
  exact ⟨_, _, h1, atI_nat (map_get ea), h3 i _ r ea e⟩
/-- a list of truth values at D, k of them; one holds if and only if A -/
def AnyP (H1 : Hp) (D : Addr) (k : Nat) (A : Prop) (H : Hp) : Prop := Same H1 H ∧ ∃ bs : List Bool, H D = some (.lst (bs.map V.bl)) ∧ bs.length = k ∧ (bs.any id = true ↔ A)
theorem AnyP.start {H1 : Hp} {D : Addr} {A : Prop} (hD : H1 D = none) (a : ¬ A) : AnyP H1 D 0 A (upd H1 D (.lst [])) :=
  ⟨Same.new hD _, [], upd_same, rfl, ⟨fun z => by simp at z, fun z => absurd z a⟩⟩
theorem AnyP.imp {H1 H : Hp} {D : Addr} {k k' : Nat} {A A' : Prop} (h : AnyP H1 D k A H) (ek : k = k') (e : A ↔ A') : AnyP H1 D k' A' H := by
  obtain ⟨s, bs, h1, h2, h3⟩ := h
  exact ⟨s, bs, h1, by omega, h3.trans e⟩
theorem AnyP.push {H1 H H4 : Hp} {D : Addr} {k : Nat} {A : Prop} {b : Bool} (h : AnyP H1 D k A H) (hD : H1 D = none) (s : Same H H4) (hk : k < sizeLine) :
    ∃ acc, H4 D = some (.lst acc) ∧ acc.length < sizeLine ∧ AnyP H1 D (k + 1) (A ∨ b = true) (upd H4 D (.lst (acc ++ [.bl b]))) := by
  obtain ⟨s1, bs, h1, h2, h3⟩ := h
  refine ⟨_, s _ _ h1, by rw [List.length_map]; omega, fun c u e => by rw [upd_ne (ne_of_none e hD)]; exact s _ _ (s1 _ _ e), bs ++ [b], by rw [List.map_append]; exact upd_same, by simp [h2], ?_⟩
  rw [List.any_append, Bool.or_eq_true, h3]
  simp
theorem ex_lt {n : Nat} {c : Nat → Prop} : (∃ i < n + 1, c i) ↔ (∃ i < n, c i) ∨ c n := by
  constructor
  · rintro ⟨i, hi, h⟩
    by_cases e : i = n
    · exact .inr (e ▸ h)
    · exact .inl ⟨i, by omega, h⟩
  · rintro (⟨i, hi, h⟩ | h)
    · exact ⟨i, by omega, h⟩
    · exact ⟨n, by omega, h⟩
section
variable {P : Program} {w : World} {K : PySem.W.Frag} {mg : Str → Option Value} {base : Heap}
theorem ok_frozen (T : Txt w K mg) : FnOk P w K mg base CX0 1 T.a_frozen T.d_frozen p_frozen (spFrozen K) := by
  refine T.F_frozen.ok sc_frozen (fun vs H Q E h => ?_) (fun cdv A outer s H vs Q E hr h => ?_)
  · obtain ⟨p, M, rfl, _⟩ := h
    rfl
  obtain ⟨p, M, rfl, hM, hn, q⟩ := h
  refine ⟨_, (pss_one (ps_ret (pe_callTy call_tuple_of rfl T.z_tuple bt_tuple (pa_cons (pe_lc (own := [("row", 1)]) (g := gName 1) (tt := tYes) rfl sc_frozen.nd (pi_list (pv 0)) (blkOk_by (own := [("row", 1)]) (N := n_frozen) (sc := defScope s_frozen) (by decide +kernel)) (fun _ _ _ _ _ => (pg_name (i := 1) sc_frozen.nd rfl (Or.inl rfl))) (fun _ _ _ _ _ => pts_nil) (fun _ _ _ _ _ => (pe_callTy (show CallR _ _ (rTupOf K) from call_tuple_of) rfl T.z_tuple bt_tuple (pa_cons (pv 1) pa_nil)))) pa_nil)))), ?_⟩
  obtain ⟨vs, hv, hl, hrow⟩ := hM.row
  refine ⟨_, rfl, p, rfl, ⟨vs, hv⟩, fun D hD => ?_⟩
  refine lc_it (walk_list (xs := vs)) (LcP (Same H) (RRow K true M D) D) (lcp_start hD) (fun i G _ P => P.1.seq hv) ?_ ?_
  · rintro i x G G' hi P ⟨rfl, ex⟩
    obtain ⟨a, r, rfl, er, ha⟩ := hrow i x ex
    refine ⟨rfl, tyes ?_⟩
    refine ⟨_, rfl, a, _, rfl, .inl ⟨P.1.seq ha, fun l hl => ?_⟩⟩
    exact lcp_same P hD (Same.new hl _) (lt_line (by omega)) RRow.mono ⟨l, r, rfl, er, P.ne hl, Sq.upd_sameT⟩
  · intro G P
    obtain ⟨as, h1, h2, h3⟩ := lcp_rows P hl
    refine ⟨D, _, rfl, .inl ⟨h1, fun l hl => ?_⟩⟩
    exact q l _ (P.1.trans (Same.new hl _)) ⟨as, Sq.upd_sameT, h2, fun i a r e1 e2 => Sq.same (Same.new hl _) (h3 i a r e1 e2)⟩
theorem ok_has_contradiction (T : Txt w K mg) : FnOk P w K mg base CX0 1 T.a_has_contradiction T.d_has_contradiction p_has_contradiction (spContra K) := by
  refine T.F_has_contradiction.ok sc_has_contradiction (fun vs H Q E h => ?_) (fun cdv A outer s H vs Q E hr h => ?_)
  · obtain ⟨p, M, n, rfl, _⟩ := h
    rfl
  obtain ⟨p, M, n, rfl, hM, sM, hn, q⟩ := h
  refine ⟨_, (pss_one (ps_ret (pe_callB (cr_any rfl) rfl T.z_any bb_any (pa_cons (pe_lc (own := [("at", 1), ("row", 2)]) (g := gTup K 2 (gCons (gName 1) (gCons (gName 2) gNil))) (tt := tYes) rfl sc_has_contradiction.nd (EnT.pi_enumG (by rfl) T.z_enumerate (pa_cons (pv 0) pa_nil)) (blkOk_by (own := [("at", 1), ("row", 2)]) (N := n_has_contradiction) (sc := defScope s_has_contradiction) (by decide +kernel)) (fun _ _ _ _ _ => (pg_tup rfl (pgs_cons (pg_name (i := 1) sc_has_contradiction.nd rfl (Or.inl rfl)) (pgs_cons (pg_name (i := 2) sc_has_contradiction.nd rfl (Or.inl rfl)) pgs_nil)))) (fun _ _ _ _ _ => pts_nil) (fun _ _ _ _ _ => (pe_cmpR op_lt (pe_ix (show IxR _ (rIxL K) from ix_list) (pv 2) (pv 1) (fun _ _ => rfl)) pe_int (nomark _)))) pa_nil)))), ?_⟩
  obtain ⟨vs, hv, hl, hrow⟩ := hM.row
  have lv : vs.length = n := by rw [hl, sM.1]
  refine ⟨_, rfl, false, p, _, rfl, hv, fun D hD => ?_⟩
  refine lc_it EnT.walk_enumG (fun i G => AnyP H D i (∃ i' < i, getM M i' i' < 0) G) (AnyP.start hD (by rintro ⟨i, h, _⟩; omega)) (fun i G _ P => Sq.same P.1 hv) ?_ ?_
  · rintro i x G G' hi P ⟨t, u, v, rfl, ht, rfl, eu, ev⟩
    cases eu
    obtain ⟨a, r, rfl, er, ha⟩ := hrow i v ev
    have lr := sM.get er
    have e0 : r[i]? = some (r[i]'(by omega)) := List.getElem?_eq_getElem _
    refine ⟨t, _, rfl, SqT.of upd_same, rfl, _, _, rfl, _, _, rfl, rfl, ?_⟩
    refine ⟨rfl, tyes ?_⟩
    refine ⟨_, rfl, _, rfl, a, _, _, _, rfl, rfl, (P.1.trans (Same.new ht _)).seq ha, atI_nat (map_get e0), _, _, rfl, rfl, ?_⟩
    obtain ⟨acc, z1, z2, z3⟩ := P.push (b := decide (r[i]'(by omega) < 0)) hD (Same.new ht (.tup [.int i, .ref a])) (lt_line (by omega))
    refine ⟨acc, z1, z2, z3.imp rfl ?_⟩
    rw [ex_lt, getM_of er e0, decide_eq_true_eq]
  · rintro G ⟨sG, bs, h1, h2, h3⟩
    rw [lv] at h3
    exact ⟨D, bs, rfl, SqL.of h1, q _ _ sG h3⟩
theorem ok_shortened (T : Txt w K mg) : FnOk P w K mg base CX0 1 T.a_shortened T.d_shortened p_shortened (spShort K) := by
  refine T.F_shortened.ok sc_shortened (fun vs H Q E h => ?_) (fun cdv A outer s H vs Q E hr h => ?_)
  · obtain ⟨p, M, n, k, rfl, _⟩ := h
    rfl
  obtain ⟨p, M, n, k, rfl, hM, sM, hn, hk, q⟩ := h
  refine ⟨_, (pss_cons (ps_set (i := 2) sc_shortened.nd rfl (Or.inr rfl) (pe_ix ix_list (pv 0) (pv 1) (fun _ _ => rfl)))
      (pss_one (ps_ret (pe_lc (own := [("row", 3)]) (g := gName 3) (tt := tYes) rfl sc_shortened.nd (pi_list (pv 0)) (blkOk_by (own := [("row", 3)]) (N := n_shortened) (sc := defScope s_shortened) (by decide +kernel)) (fun _ _ _ _ _ => (pg_name (i := 3) sc_shortened.nd rfl (Or.inr rfl))) (fun _ _ _ _ _ => pts_nil) (fun _ _ _ _ _ => (pe_lc (own := [("most", 4), ("second", 5)]) (g := gTup K 2 (gCons (gName 4) (gCons (gName 5) gNil))) (tt := tYes) rfl sc_shortened.nd (show PI _ _ _ (ZG.iZipG K _) from (ZG.pi_zipG (by rfl) T.z_zip (pa_cons (pv 3) (pa_cons (pv 2) pa_nil)))) (blkOk_by (own := [("most", 4), ("second", 5)]) (N := n_shortened) (sc := relS _ (defScope s_shortened)) (by decide +kernel)) (fun _ _ _ _ _ => (pg_tup rfl (pgs_cons (pg_name (i := 4) sc_shortened.nd rfl (Or.inl rfl)) (pgs_cons (pg_name (i := 5) sc_shortened.nd rfl (Or.inl rfl)) pgs_nil)))) (fun _ _ _ _ _ => pts_nil) (fun _ _ _ _ _ => (pe_callB (call_min2 rfl) rfl T.z_min bb_min (pa_cons (pv 4) (pa_cons (pe_op op_add (pe_ix (show IxR _ (rIxL K) from ix_list) (pv 3) (pv 1) (fun _ _ => rfl)) (pv 5)) pa_nil)))))))))), ?_⟩
  obtain ⟨rk, ek, lk⟩ := sM.at hk
  obtain ⟨vs0, ak, g1, g2, g3⟩ := hM.getT ek
  obtain ⟨vs, hv, hl, hrow⟩ := hM.row
  have lv : vs.length = n := by rw [hl, sM.1]
  refine ⟨_, rfl, _, rfl, p, _, _, _, rfl, rfl, g1, g2, ?_⟩
  refine ⟨_, rfl, p, rfl, ⟨vs, hv⟩, fun D hD => ?_⟩
  refine lc_it (walk_list (xs := vs)) (LcP (Same H) (RRow K false (mkM n (fwS k (getM M))) D) D) (lcp_start hD) (fun i G _ P => P.1.seq hv) ?_ ?_
  · rintro i x G G' hi P ⟨rfl, ex⟩
    rw [lv] at hi
    obtain ⟨a, r, rfl, er, ha⟩ := hrow i x ex
    have lr := sM.get er
    refine ⟨rfl, tyes ?_⟩
    have ha2 := Sq.same P.1 ha
    have hk2 := Sq.same P.1 g3
    refine ⟨_, rfl, _, rfl, false, false, a, ak, _, _, rfl, ha2, hk2, fun D2 hD2 => ?_⟩
    refine lc_it (walk_zipG (n := n) (by rw [List.length_map, List.length_map]; omega)) (LcP (Same G') (RInt (mkR n (fwS k (getM M) i))) D2) (lcp_start hD2) (fun i F _ P2 => ⟨Sq.same P2.1 ha2, Sq.same P2.1 hk2⟩) ?_ ?_
    · rintro j y F F' hj P2 ⟨t2, c1, c2, rfl, ht2, rfl, e1, e2⟩
      obtain ⟨k1, f1, rfl⟩ := get_int e1
      obtain ⟨k2, f2, rfl⟩ := get_int e2
      have e3 : r[k]? = some (r[k]'(by omega)) := List.getElem?_eq_getElem _
      refine ⟨t2, _, rfl, SqT.of upd_same, rfl, _, _, rfl, _, _, rfl, rfl, ?_⟩
      refine ⟨rfl, tyes ?_⟩
      refine ⟨_, rfl, _, rfl, _, rfl, a, _, _, _, rfl, rfl, (P2.1.trans (Same.new ht2 _)).seq ha2, atI_nat (map_get e3), _, rfl, _, _, rfl, rfl, _, _, rfl, ?_⟩
      refine lcp_same P2 hD2 (Same.new ht2 _) (lt_line (by omega)) RInt.mono ⟨_, mkR_at hj, ?_⟩
      unfold fwS
      rw [getM_of er f1, getM_of er e3, getM_of ek f2]
      congr 1
      split <;> omega
    · intro F P2
      have e := lcp_ints (K := K) P2 mkR_len.symm
      exact lcp_same P hD P2.1 (lt_line (by omega)) RRow.mono ⟨D2, _, rfl, mkM_at hi, P.ne hD2, SqL.of e⟩
  · intro G P
    exact q D G P.1 (lcp_rows P (by rw [lv, mkM_sz.1]))
theorem ok_close (T : Txt w K mg) : FnOk P w K mg base CX0 2 T.a_close T.d_close p_close (spClose K) := by
  have g_frozen := ok_frozen (P := P) (w := w) (base := base) T
  have g_has_contradiction := ok_has_contradiction (P := P) (w := w) (base := base) T
  have g_shortened := ok_shortened (P := P) (w := w) (base := base) T
  refine T.F_close.ok sc_close (fun vs H Q E h => ?_) (fun cdv A outer s H vs Q E hr h => ?_)
  · obtain ⟨t1, t2, p, M, n, rfl, _⟩ := h
    rfl
  obtain ⟨t1, t2, p, M, n, rfl, hM, sM, hn, q⟩ := h
  refine ⟨_, (pss_cons (ps_setLc (i := 1) (own := [("i", 2), ("row", 3)]) (g := gTup K 2 (gCons (gName 2) (gCons (gName 3) gNil))) (tt := tYes) rfl sc_close.nd rfl rfl (sw_true rfl rfl rfl (by decide +kernel)) (EnT.pi_enumG (by rfl) T.z_enumerate (pa_cons (pv 0) pa_nil)) (blkOk_by (own := [("i", 2), ("row", 3)]) (N := n_close) (sc := defScope s_close) (by decide +kernel)) (fun _ _ _ _ _ => (pg_tup rfl (pgs_cons (pg_name (i := 2) sc_close.nd rfl (Or.inr rfl)) (pgs_cons (pg_name (i := 3) sc_close.nd rfl (Or.inl rfl)) pgs_nil)))) (fun _ _ _ _ _ => pts_nil) (fun _ _ _ _ _ => (pe_lc (own := [("j", 4), ("most", 5)]) (g := gTup K 2 (gCons (gName 4) (gCons (gName 5) gNil))) (tt := tYes) rfl sc_close.nd (show PI _ _ _ (EnT.iEnumG K _) from (EnT.pi_enumG (by rfl) T.z_enumerate (pa_cons (pv 3) pa_nil))) (blkOk_by (own := [("j", 4), ("most", 5)]) (N := n_close) (sc := relS _ (defScope s_close)) (by decide +kernel)) (fun _ _ _ _ _ => (pg_tup rfl (pgs_cons (pg_name (i := 4) sc_close.nd rfl (Or.inl rfl)) (pgs_cons (pg_name (i := 5) sc_close.nd rfl (Or.inl rfl)) pgs_nil)))) (fun _ _ _ _ _ => pts_nil) (fun _ _ _ _ _ => (pe_ifExp (pt_cmpR op_eq (pv 2) (pv 4) (nomark _)) (pe_callB (call_min2 rfl) rfl T.z_min bb_min (pa_cons (pv 5) (pa_cons pe_int pa_nil))) (pv 5))))))
      (pss_cons (ps_for PassesOwn.never rfl (pi_range1 rfl T.z_range (pa_cons (pe_callB call_len_seq rfl T.z_len PySem.boot_len (pa_cons (pv 1) pa_nil)) pa_nil)) (pg_name (i := 6) sc_close.nd rfl (Or.inl rfl))
        (pss_cons (ps_if (pt_val (pe_call g_has_contradiction (hr.mono (by first | decide | omega)) rfl T.m_has_contradiction T.F_has_contradiction.kp T.b_has_contradiction .nil pass0 (pa_cons (pv 1) pa_nil))) (pss_one (ps_ret pe_non)) pss_nil)
      (pss_one (ps_set (i := 1) sc_close.nd rfl (Or.inl rfl) (pe_call g_shortened (hr.mono (by first | decide | omega)) rfl T.m_shortened T.F_shortened.kp T.b_shortened .nil pass0 (pa_cons (pv 1) (pa_cons (pv 6) pa_nil)))))))
      (pss_one (ps_ret (pe_ifExp (pt_val (pe_call g_has_contradiction (hr.mono (by first | decide | omega)) rfl T.m_has_contradiction T.F_has_contradiction.kp T.b_has_contradiction .nil pass0 (pa_cons (pv 1) pa_nil))) pe_non (pe_call g_frozen (hr.mono (by first | decide | omega)) rfl T.m_frozen T.F_frozen.kp T.b_frozen .nil pass0 (pa_cons (pv 1) pa_nil))))))), ?_⟩
  obtain ⟨vs, hv, hl, hrow⟩ := hM.row
  have lv : vs.length = n := by rw [hl, sM.1]
  refine ⟨_, rfl, t1, p, _, rfl, hv, fun D hD => ?_⟩
  refine lc_it EnT.walk_enumG (LcP (Same H) (RRow K false (mkM n (fw0 n (getM M))) D) D) (lcp_start hD) (fun i G _ P => Sq.same P.1 hv) ?_ ?_
  · rintro i x G G' hi P ⟨t, u, v, rfl, ht, rfl, eu, ev⟩
    cases eu
    rw [lv] at hi
    obtain ⟨a, r, rfl, er, ha⟩ := hrow i v ev
    have lr := sM.get er
    have s1 : Same G (upd G t (.tup [.int i, .ref a])) := Same.new ht _
    refine ⟨t, _, rfl, SqT.of upd_same, rfl, _, _, rfl, _, _, rfl, rfl, ?_⟩
    refine ⟨rfl, tyes ?_⟩
    have ha2 := Sq.same (P.1.trans s1) ha
    refine ⟨_, rfl, t2, a, _, rfl, ha2, fun D2 hD2 => ?_⟩
    refine lc_it EnT.walk_enumG (LcP (Same _) (RInt (mkR n (fw0 n (getM M) i))) D2) (lcp_start hD2) (fun i F _ P2 => Sq.same P2.1 ha2) ?_ ?_
    · rintro j y F F' hj P2 ⟨t3, c1, c2, rfl, ht3, rfl, e1, e2⟩
      cases e1
      obtain ⟨k2, f2, rfl⟩ := get_int e2
      rw [List.length_map, lr] at hj
      refine ⟨t3, _, rfl, SqT.of upd_same, rfl, _, _, rfl, _, _, rfl, rfl, ?_⟩
      refine ⟨rfl, tyes ?_⟩
      refine ⟨_, rfl, _, rfl, rfl, _, rfl, ite2 (fun h => ?_) (fun h => ?_)⟩
      · have hij : i = j := by
          have h' := of_decide_eq_true h
          have := V.int.inj h'
          omega
        subst hij
        refine ⟨_, rfl, _, _, rfl, ?_⟩
        refine lcp_same P2 hD2 (Same.new ht3 _) (lt_line (by omega)) RInt.mono ⟨_, mkR_at hj, ?_⟩
        unfold fw0
        rw [if_pos rfl, getM_of er f2]
        congr 1
        split <;> omega
      · have hij : i ≠ j := fun z => h (decide_eq_true (by rw [z]))
        refine ⟨_, rfl, ?_⟩
        refine lcp_same P2 hD2 (Same.new ht3 _) (lt_line (by omega)) RInt.mono ⟨_, mkR_at hj, ?_⟩
        unfold fw0
        rw [if_neg hij, getM_of er f2]
    · intro F P2
      have e := lcp_ints (K := K) P2 (by rw [List.length_map, lr, mkR_len])
      exact lcp_same P hD (s1.trans P2.1) (lt_line (by omega)) RRow.mono ⟨D2, _, rfl, mkM_at hi, P.ne (s1.free hD2), SqL.of e⟩
  intro G P
  have m0 := lcp_rows P (by rw [lv, mkM_sz.1])
  have F0 : Fw n (getM M) 0 (getM (mkM n (fw0 n (getM M)))) := (Fw.start (getM M)).congr (by omega) fun i hi j hj => (mkM_get hi hj).symm
  obtain ⟨as, g1, g2, _⟩ := id m0
  have la : as.length = n := by rw [g2, mkM_sz.1]
  refine ⟨_, rfl, D, _, rfl, .inl g1, _, rfl, by omega, by rw [List.length_map, la]; omega, for_range (lo := 0) (fun i σ G' => ∃ (D' : Addr) (N : List (List Int)) (c : Option V), σ = [some (.ref p), some (.ref D'), none, none, none, none, c] ∧ Same H G' ∧ Mx false false K G' D' N ∧ Sz n N ∧ Fw n (getM M) i (getM N))
    ⟨D, _, none, rfl, P.1, m0, mkM_sz, F0⟩ ?_ ?_⟩
  · rintro i σ G1 hi ⟨D', N, c, rfl, s1, m1, z1, f1⟩
    rw [List.length_map, la] at hi
    refine ⟨_, rfl, D', N, n, rfl, m1, z1, hn, fun b G2 s2 hb => ⟨_, rfl, ?_⟩⟩
    cases b with
    | true =>
      obtain ⟨i', hi', neg⟩ := hb.mp rfl
      exact ifT rfl (q .non G2 none (s1.trans s2) rfl (f1.bad hi' neg))
    | false =>
      have pos : ∀ i < n, 0 ≤ getM N i i := fun i' hi' => by
        refine Int.not_lt.mp fun neg => ?_
        exact absurd (hb.mpr ⟨i', hi', neg⟩) (by decide)
      refine ifF rfl ?_
      refine ⟨_, rfl, _, rfl, D', N, n, i, congrArg (fun z => [V.ref D', V.int z]) (Int.zero_add _), m1.same s2, z1, hn, (by omega), fun q1 G3 s3 m3 => ?_⟩
      exact ⟨q1, _, _, rfl, (s1.trans s2).trans s3, m3, mkM_sz, (f1.step (by omega) pos).congr (by omega) fun i hi j hj => (mkM_get hi hj).symm⟩
  · rintro σ G1 ⟨D', N, c, rfl, s1, m1, z1, f1⟩
    rw [List.length_map, la, Int.toNat_natCast] at f1
    refine ⟨_, rfl, D', N, n, rfl, m1, z1, hn, fun b G2 s2 hb => ⟨_, rfl, ?_⟩⟩
    cases b with
    | true =>
      obtain ⟨i', hi', neg⟩ := hb.mp rfl
      exact ifT rfl (q .non G2 none (s1.trans s2) rfl (f1.bad hi' neg))
    | false =>
      have pos : ∀ i < n, 0 ≤ getM N i i := fun i' hi' => by
        refine Int.not_lt.mp fun neg => ?_
        exact absurd (hb.mpr ⟨i', hi', neg⟩) (by decide)
      refine ifF rfl ?_
      refine ⟨_, rfl, D', N, rfl, m1.same s2, by rw [z1.1]; omega, fun p' H' s' hM' => ?_⟩
      have bst := f1.done pos
      rw [mkM_self z1] at bst
      exact q _ _ (some N) ((s1.trans s2).trans s') ⟨p', rfl, hM'⟩ bst
end
/-! ### drawn numbers and points -/
def spNumber : Sp := fun vs H Q _ => ∃ a : Addr, vs = [.ref a] ∧ Src H a ∧ ∀ (r : Int) H', Stp a H H' → Q (.int r) H'
def spSize : Sp := fun vs H Q _ => ∃ a : Addr, vs = [.ref a] ∧ Src H a ∧ ∀ (n : Nat) H', Stp a H H' → n ≤ 20 → Q (.int n) H'
theorem ixInt {ns : List Int} {r : Int} (h0 : 0 ≤ r) (h : r < (ns.length : Int)) : ∃ u : Int, atI (ns.map V.int) r = some (.int u) := by
  have e := atI_int (xs := ns.map V.int) h0 (by rw [List.length_map]; omega)
  rw [List.getElem_map] at e
  exact ⟨_, e⟩
theorem Src.new {a p : Addr} {H : Hp} {o : HO} (h : Src H a) (n : H p = none) : Src (upd H p o) a := (Stp.refl h).new n |>.s
/-- points: a list of tuples, the list a tracked one -/
def Pts (K : PySem.W.Frag) (H : Hp) (p : Addr) (Ps : List (List Int)) : Prop :=
  ∃ as : List Addr, H p = some (.lst (as.map V.ref)) ∧ as.length = Ps.length ∧ ∀ (i : Nat) (a : Addr) (r : List Int), as[i]? = some a → Ps[i]? = some r → SqT K H a (r.map V.int)
theorem Pts.mx {K : PySem.W.Frag} {H : Hp} {p : Addr} {Ps : List (List Int)} (h : Pts K H p Ps) : Mx false true K H p Ps := by
  obtain ⟨as, h1, h2, h3⟩ := h
  exact ⟨as, SqL.of h1, h2, h3⟩
theorem Pts.same {K : PySem.W.Frag} {H H' : Hp} {p : Addr} {Ps : List (List Int)} (s : Same H H') (h : Pts K H p Ps) : Pts K H' p Ps := by
  obtain ⟨as, h1, h2, h3⟩ := h
  exact ⟨as, s _ _ h1, h2, fun i a r e1 e2 => Same.tup s (h3 i a r e1 e2)⟩
theorem Stp.put {a D : Addr} {G F : Hp} {o : HO} (x : Stp a G F) (hs : Src G a) (hD : G D = none) : Stp a G (upd F D o) := by
  have ne := hs.ne hD
  obtain ⟨c, m, k, h⟩ := x.s
  exact ⟨⟨c, m, k, by rw [upd_ne ne]; exact h⟩, fun b u hb e => by rw [upd_ne (ne_of_none e hD)]; exact x.k b u hb e⟩
/-- the points so far, none of them at p -/
def PtsN (K : PySem.W.Frag) (H : Hp) (p : Addr) (Ps : List (List Int)) : Prop :=
  ∃ as : List Addr, H p = some (.lst (as.map V.ref)) ∧ as.length = Ps.length ∧ ∀ (i : Nat) (a : Addr) (r : List Int), as[i]? = some a → Ps[i]? = some r → a ≠ p ∧ SqT K H a (r.map V.int)
theorem PtsN.pts {K : PySem.W.Frag} {H : Hp} {p : Addr} {Ps : List (List Int)} (h : PtsN K H p Ps) : Pts K H p Ps := by
  obtain ⟨as, h1, h2, h3⟩ := h
  exact ⟨as, h1, h2, fun i a r e1 e2 => (h3 i a r e1 e2).2⟩
theorem ints_of {acc : List V} (h : ∀ (j : Nat) (y : V), acc[j]? = some y → ∃ k : Int, y = .int k) : ∃ ns : List Int, acc = ns.map V.int := by
  induction acc with
  | nil => exact ⟨[], rfl⟩
  | cons y acc ih =>
    obtain ⟨k, rfl⟩ := h 0 y rfl
    obtain ⟨ns, rfl⟩ := ih fun j y e => h (j + 1) y (by simpa using e)
    exact ⟨k :: ns, rfl⟩
/-- one point more -/
theorem PtsN.push {K : PySem.W.Frag} {G F : Hp} {p t : Addr} {Ps : List (List Int)} {as : List Addr} {ns : List Int} (e2 : as.length = Ps.length) (e3 : ∀ (i : Nat) (a : Addr) (r : List Int), as[i]? = some a → Ps[i]? = some r → a ≠ p ∧ SqT K G a (r.map V.int))
    (k : ∀ (x : Addr) (xs : List V), SqT K G x xs → SqT K F x xs) (ht : SqT K F t (ns.map V.int)) (ne : t ≠ p) : PtsN K (upd F p (.lst (as.map V.ref ++ [.ref t]))) p (Ps ++ [ns]) := by
  refine ⟨as ++ [t], by rw [List.map_append]; exact upd_same, by simp [e2], fun i a r h1 h2 => ?_⟩
  have put : ∀ {x : Addr} {xs : List V}, x ≠ p → SqT K F x xs → SqT K (upd F p (.lst (as.map V.ref ++ [.ref t]))) x xs := fun nx h => Sq.but (t := true) (But.upd _) nx h
  by_cases hi : i < as.length
  · rw [List.getElem?_append_left hi] at h1
    rw [List.getElem?_append_left (by omega)] at h2
    obtain ⟨q1, q2⟩ := e3 i a r h1 h2
    exact ⟨q1, put q1 (k _ _ q2)⟩
  · rw [List.getElem?_append_right (by omega)] at h1
    rw [List.getElem?_append_right (by omega)] at h2
    have ei : i = as.length := by
      have := (List.getElem?_eq_some_iff.mp h1).1
      simp at this
      omega
    subst ei
    rw [Nat.sub_self] at h1
    rw [e2, Nat.sub_self] at h2
    have h1' : t = a := by simpa using h1
    have h2' : ns = r := by simpa using h2
    subst h1' h2'
    exact ⟨ne, put ne ht⟩
/-- all have n numbers, and there are few -/
def Few (n : Nat) (Ps : List (List Int)) : Prop := Ps.length ≤ 20 ∧ ∀ r ∈ Ps, r.length = n
def spSeeds (K : PySem.W.Frag) : Sp := fun vs H Q _ => ∃ (a : Addr) (n : Nat), vs = [.ref a, .int n] ∧ Src H a ∧ n ≤ 20 ∧ ∀ p H' Ps, Stp a H H' → H p = none → Pts K H' p Ps → Few n Ps → Q (.ref p) H'
section
variable {P : Program} {w : World} {K : PySem.W.Frag} {mg : Str → Option Value} {base : Heap}
end
/-! ### the least box of some points -/
def lmax : List Int → Int
  | [] => 0
  | [x] => x
  | x :: y :: r => max x (lmax (y :: r))
theorem lmax_mem : ∀ {xs : List Int}, xs ≠ [] → lmax xs ∈ xs
  | [], h => absurd rfl h
  | [x], _ => by simp [lmax]
  | x :: y :: r, _ => by
    have ih := lmax_mem (xs := y :: r) (by simp)
    unfold lmax
    by_cases h : x ≤ lmax (y :: r)
    · rw [Int.max_eq_right h]
      exact List.mem_cons_of_mem _ ih
    · rw [Int.max_eq_left (by omega)]
      exact List.mem_cons_self
theorem lmax_le : ∀ {xs : List Int} {x : Int}, x ∈ xs → x ≤ lmax xs
  | [], _, h => by simp at h
  | [z], x, h => by
    have e : x = z := by simpa using h
    rw [e]
    exact Int.le_refl _
  | z :: y :: r, x, h => by
    unfold lmax
    rcases List.mem_cons.mp h with rfl | h
    · omega
    · have := lmax_le (xs := y :: r) h
      omega
theorem lmax_eq {xs : List Int} {m : Int} (h1 : m ∈ xs) (h2 : ∀ y ∈ xs, y ≤ m) : m = lmax xs := by
  have ne : xs ≠ [] := fun z => by rw [z] at h1; simp at h1
  have a := h2 _ (lmax_mem ne)
  have b := lmax_le h1
  omega
theorem lmax_append {xs ys : List Int} (h1 : xs ≠ []) (h2 : ys ≠ []) : lmax (xs ++ ys) = max (lmax xs) (lmax ys) := by
  symm
  refine lmax_eq ?_ fun y hy => ?_
  · by_cases h : lmax xs ≤ lmax ys
    · rw [Int.max_eq_right h]
      exact List.mem_append.mpr (.inr (lmax_mem h2))
    · rw [Int.max_eq_left (by omega)]
      exact List.mem_append.mpr (.inl (lmax_mem h1))
  · rcases List.mem_append.mp hy with h | h
    · have := lmax_le h
      omega
    · have := lmax_le h
      omega
/-- column i minus column j of a point -/
def dif (i j : Nat) (r : List Int) : Int := (0 :: r).getD i 0 - (0 :: r).getD j 0
def hullM (n : Nat) (Ps : List (List Int)) : List (List Int) := (List.range (n + 1)).map fun i => (List.range (n + 1)).map fun j => lmax (Ps.map (dif i j))
def hull (n : Nat) (Ps : List (List Int)) : Option (List (List Int)) := if Ps = [] then none else some (hullM n Ps)
theorem hullM_sz (n : Nat) (Ps : List (List Int)) : Sz (n + 1) (hullM n Ps) := by
  refine ⟨by simp [hullM], fun r hr => ?_⟩
  obtain ⟨i, _, rfl⟩ := List.mem_map.mp hr
  simp
theorem hull_sz (n : Nat) (Ps : List (List Int)) : BSz (n + 1) (hull n Ps) := by
  intro M e
  unfold hull at e
  split at e
  · cases e
  · cases e
    exact hullM_sz n Ps
theorem range_get {n i : Nat} (h : i < n) : (List.range n)[i]? = some i := by simp [h]
def spHull (K : PySem.W.Frag) : Sp := fun vs H Q _ => ∃ (p : Addr) (n : Nat) (Ps : List (List Int)), vs = [.ref p, .int n] ∧ n ≤ 900 ∧ Mx false true K H p Ps ∧ (∀ r ∈ Ps, r.length = n) ∧ Ps.length ≤ 1000000 ∧ ∀ v H', Same H H' → BoxAt K H' v (hull n Ps) → Q v H'
/-! ### the least box is closed -/
theorem getM_hull {n : Nat} {Ps : List (List Int)} {i j : Nat} (hi : i < n + 1) (hj : j < n + 1) : getM (hullM n Ps) i j = lmax (Ps.map (dif i j)) := getM_of (map_get (range_get hi)) (map_get (range_get hj))
theorem hull_tri {n : Nat} {Ps : List (List Int)} (hP : Ps ≠ []) {i j k : Nat} (hi : i < n + 1) (hj : j < n + 1) (hk : k < n + 1) : getM (hullM n Ps) i j ≤ getM (hullM n Ps) i k + getM (hullM n Ps) k j := by
  rw [getM_hull hi hj, getM_hull hi hk, getM_hull hk hj]
  obtain ⟨r, hr, e⟩ := List.mem_map.mp (lmax_mem (xs := Ps.map (dif i j)) fun z => hP (List.map_eq_nil_iff.mp z))
  have h1 : dif i k r ≤ lmax (Ps.map (dif i k)) := lmax_le (List.mem_map_of_mem hr)
  have h2 : dif k j r ≤ lmax (Ps.map (dif k j)) := lmax_le (List.mem_map_of_mem hr)
  rw [← e]
  unfold dif at *
  omega
theorem hull_diag {n : Nat} {Ps : List (List Int)} (hP : Ps ≠ []) {i : Nat} (hi : i < n + 1) : getM (hullM n Ps) i i = 0 := by
  rw [getM_hull hi hi]
  obtain ⟨r, hr, e⟩ := List.mem_map.mp (lmax_mem (xs := Ps.map (dif i i)) fun z => hP (List.map_eq_nil_iff.mp z))
  rw [← e]
  unfold dif
  omega
/-- the points at these addresses -/
def PA (K : PySem.W.Frag) (H : Hp) (as : List Addr) (Ps : List (List Int)) : Prop := as.length = Ps.length ∧ ∀ (i : Nat) (a : Addr) (r : List Int), as[i]? = some a → Ps[i]? = some r → SqT K H a (r.map V.int)
theorem Pts.pa {K : PySem.W.Frag} {H : Hp} {p : Addr} {Ps : List (List Int)} (h : Pts K H p Ps) : ∃ as, H p = some (.lst (as.map V.ref)) ∧ PA K H as Ps := by
  obtain ⟨as, h1, h2, h3⟩ := h
  exact ⟨as, h1, h2, h3⟩
theorem PA.pts {K : PySem.W.Frag} {H : Hp} {p : Addr} {as : List Addr} {Ps : List (List Int)} (h : PA K H as Ps) (e : H p = some (.lst (as.map V.ref))) : Pts K H p Ps := ⟨as, e, h.1, h.2⟩
theorem PA.same {K : PySem.W.Frag} {H H' : Hp} {as : List Addr} {Ps : List (List Int)} (s : Same H H') (h : PA K H as Ps) : PA K H' as Ps := ⟨h.1, fun i a r e1 e2 => Same.tup s (h.2 i a r e1 e2)⟩
theorem PA.stp {K : PySem.W.Frag} {a : Addr} {H H' : Hp} {as : List Addr} {Ps : List (List Int)} (s : Stp a H H') (hs : Src H a) (h : PA K H as Ps) : PA K H' as Ps := ⟨h.1, fun i b r e1 e2 => s.rd (h.2 i b r e1 e2) hs⟩
theorem PA.drop {K : PySem.W.Frag} {H : Hp} {as : List Addr} {Ps : List (List Int)} (k : Nat) (h : PA K H as Ps) : PA K H (as.drop k) (Ps.drop k) := by
  refine ⟨by rw [List.length_drop, List.length_drop, h.1], fun i a r e1 e2 => ?_⟩
  rw [List.getElem?_drop] at e1 e2
  exact h.2 _ a r e1 e2
theorem PA.take {K : PySem.W.Frag} {H : Hp} {as : List Addr} {Ps : List (List Int)} (k : Nat) (h : PA K H as Ps) : PA K H (as.take k) (Ps.take k) := by
  refine ⟨by rw [List.length_take, List.length_take, h.1], fun i a r e1 e2 => ?_⟩
  rw [List.getElem?_take] at e1 e2
  split at e1
  · rename_i hk
    rw [if_pos hk] at e2
    exact h.2 _ a r e1 e2
  · cases e1
theorem PA.append {K : PySem.W.Frag} {H : Hp} {as bs : List Addr} {Ps Qs : List (List Int)} (h : PA K H as Ps) (k : PA K H bs Qs) : PA K H (as ++ bs) (Ps ++ Qs) := by
  refine ⟨by rw [List.length_append, List.length_append, h.1, k.1], fun i a r e1 e2 => ?_⟩
  by_cases hi : i < as.length
  · rw [List.getElem?_append_left hi] at e1
    rw [List.getElem?_append_left (by rw [← h.1]; exact hi)] at e2
    exact h.2 i a r e1 e2
  · rw [List.getElem?_append_right (by omega)] at e1
    rw [List.getElem?_append_right (by rw [← h.1]; omega), ← h.1] at e2
    exact k.2 _ a r e1 e2
theorem PA.one {K : PySem.W.Frag} {H : Hp} {a : Addr} {r : List Int} (h : SqT K H a (r.map V.int)) : PA K H [a] [r] := by
  refine ⟨rfl, fun i b q e1 e2 => ?_⟩
  cases i with
  | zero =>
    cases e1
    cases e2
    exact h
  | succ i => simp at e1
theorem Pts.stp {K : PySem.W.Frag} {a p : Addr} {H H' : Hp} {Ps : List (List Int)} (s : Stp a H H') (hs : Src H a) (ne : p ≠ a) (h : Pts K H p Ps) : Pts K H' p Ps := by
  obtain ⟨as, h1, h2⟩ := h.pa
  exact (h2.stp s hs).pts (s.k _ _ ne h1)
/-! ### rows that are written: lists of numbers in a list -/
def RowsL (H : Hp) (as : List Addr) (Rs : List (List Int)) : Prop := as.length = Rs.length ∧ ∀ (i : Nat) (x : Addr) (r : List Int), as[i]? = some x → Rs[i]? = some r → H x = some (.lst (r.map V.int))
theorem RowsL.keep {H H' : Hp} {as : List Addr} {Rs : List (List Int)} (h : RowsL H as Rs) (k : ∀ x ∈ as, ∀ o, H x = some o → H' x = some o) : RowsL H' as Rs :=
  ⟨h.1, fun i x r e1 e2 => k x (List.mem_of_getElem? e1) _ (h.2 i x r e1 e2)⟩
theorem RowsL.at {H : Hp} {as : List Addr} {Rs : List (List Int)} {i : Nat} (h : RowsL H as Rs) (hi : i < Rs.length) : ∃ x r, as[i]? = some x ∧ Rs[i]? = some r ∧ H x = some (.lst (r.map V.int)) := by
  have ea : as[i]? = some (as[i]'(by rw [h.1]; exact hi)) := List.getElem?_eq_getElem _
  have er : Rs[i]? = some Rs[i] := List.getElem?_eq_getElem hi
  exact ⟨_, _, ea, er, h.2 i _ _ ea er⟩
theorem nodup_ix {α : Type} {as : List α} (nd : as.Nodup) {i j : Nat} {x : α} (h1 : as[i]? = some x) (h2 : as[j]? = some x) : i = j := by
  obtain ⟨l1, q1⟩ := List.getElem?_eq_some_iff.mp h1
  obtain ⟨l2, q2⟩ := List.getElem?_eq_some_iff.mp h2
  have p := List.pairwise_iff_getElem.mp nd
  rcases Nat.lt_trichotomy i j with h | h | h
  · exact absurd (q1.trans q2.symm) (p i j l1 l2 h)
  · exact h
  · exact absurd (q2.trans q1.symm) (p j i l2 l1 h)
theorem RowsL.put {H : Hp} {as : List Addr} {Rs : List (List Int)} {i : Nat} {x : Addr} {r' : List Int} (h : RowsL H as Rs) (nd : as.Nodup) (ea : as[i]? = some x) : RowsL (upd H x (.lst (r'.map V.int))) as (Rs.set i r') := by
  refine ⟨by rw [List.length_set]; exact h.1, fun j y q e1 e2 => ?_⟩
  rw [List.getElem?_set] at e2
  by_cases hj : i = j
  · subst hj
    rw [if_pos rfl] at e2
    rw [ea] at e1
    cases e1
    split at e2
    · cases e2
      exact upd_same
    · cases e2
  · rw [if_neg hj] at e2
    have ne : y ≠ x := fun z => by
      subst z
      exact hj (nodup_ix nd ea e1)
    rw [upd_ne ne]
    exact h.2 j y q e1 e2
/-- the diagonal's entry i becomes v -/
def setD (Rs : List (List Int)) (i : Nat) (v : Int) : List (List Int) := Rs.set i ((Rs.getD i []).set i v)
theorem setD_eq {Rs : List (List Int)} {i : Nat} {r : List Int} {v : Int} (e : Rs[i]? = some r) : setD Rs i v = Rs.set i (r.set i v) := by
  unfold setD
  rw [List.getD_eq_getElem?_getD, e]
  rfl
theorem setD_at {Rs : List (List Int)} {i : Nat} {r : List Int} {v : Int} (e : Rs[i]? = some r) : (setD Rs i v)[i]? = some (r.set i v) := by
  rw [setD_eq e, List.getElem?_set, if_pos rfl, if_pos (List.getElem?_eq_some_iff.mp e).1]
theorem setD_sz {n i : Nat} {Rs : List (List Int)} {v : Int} (h : Sz n Rs) (hi : i < n) : Sz n (setD Rs i v) := by
  obtain ⟨r, e, l⟩ := h.at hi
  rw [setD_eq e]
  refine ⟨by rw [List.length_set]; exact h.1, fun q hq => ?_⟩
  rcases List.mem_or_eq_of_mem_set hq with h1 | h1
  · exact h.2 q h1
  · rw [h1, List.length_set]
    exact l
theorem setD_get {n i a b : Nat} {Rs : List (List Int)} {v : Int} (h : Sz n Rs) (hi : i < n) (ha : a < n) (hb : b < n) : getM (setD Rs i v) a b = if a = i ∧ b = i then v else getM Rs a b := by
  obtain ⟨r, e, l⟩ := h.at hi
  by_cases e1 : a = i
  · subst e1
    by_cases e2 : b = a
    · subst e2
      rw [if_pos ⟨rfl, rfl⟩]
      exact getM_of (setD_at e) (by rw [List.getElem?_set, if_pos rfl, if_pos (by omega)])
    · rw [if_neg (fun z => e2 z.2)]
      have eb : r[b]? = some (r[b]'(by omega)) := List.getElem?_eq_getElem _
      rw [getM_of e eb]
      exact getM_of (setD_at e) (by rw [List.getElem?_set, if_neg (fun z => e2 z.symm)]; exact eb)
  · rw [if_neg (fun z => e1 z.1)]
    obtain ⟨q, eq', lq⟩ := h.at ha
    have eb : q[b]? = some (q[b]'(by omega)) := List.getElem?_eq_getElem _
    rw [getM_of eq' eb]
    exact getM_of (by rw [setD_eq e, List.getElem?_set, if_neg (fun z => e1 z.symm)]; exact eq') eb
theorem setD_setD {Rs : List (List Int)} {i : Nat} {r : List Int} {v w : Int} (e : Rs[i]? = some r) : (setD Rs i v).set i (r.set i w) = setD Rs i w := by
  rw [setD_eq e, setD_eq e, List.set_set]
/-- rows that were made since H0 -/
structure RowsN (a : Addr) (H0 G : Hp) (pr : Addr) (as : List Addr) (Rs : List (List Int)) : Prop where
  st : Stp a H0 G
  s0 : Src H0 a
  e : G pr = some (.lst (as.map V.ref))
  rw : RowsL G as Rs
  nd : as.Nodup
  nw : ∀ x ∈ as, H0 x = none
  np : pr ∉ as
  n0 : H0 pr = none
theorem RowsN.na {a : Addr} {H0 G : Hp} {pr : Addr} {as : List Addr} {Rs : List (List Int)} (h : RowsN a H0 G pr as Rs) : ∀ x ∈ as, x ≠ a := fun x hx => (h.s0.ne (h.nw x hx)).symm
theorem RowsN.npa {a : Addr} {H0 G : Hp} {pr : Addr} {as : List Addr} {Rs : List (List Int)} (h : RowsN a H0 G pr as Rs) : pr ≠ a := (h.s0.ne h.n0).symm
theorem RowsN.go {a : Addr} {H0 G G' : Hp} {pr : Addr} {as : List Addr} {Rs : List (List Int)} (h : RowsN a H0 G pr as Rs) (s : Stp a G G') : RowsN a H0 G' pr as Rs :=
  ⟨h.st.trans s, h.s0, s.k _ _ h.npa h.e, h.rw.keep fun x hx o e => s.k x o (h.na x hx) e, h.nd, h.nw, h.np, h.n0⟩
theorem RowsN.put {a : Addr} {H0 G : Hp} {pr : Addr} {as : List Addr} {Rs : List (List Int)} {i : Nat} {x : Addr} {r' : List Int} (h : RowsN a H0 G pr as Rs) (ea : as[i]? = some x) : RowsN a H0 (upd G x (.lst (r'.map V.int))) pr as (Rs.set i r') :=
  ⟨h.st.put h.s0 (h.nw x (List.mem_of_getElem? ea)), h.s0, by
    have ne : pr ≠ x := fun z => h.np (by rw [z]; exact List.mem_of_getElem? ea)
    rw [upd_ne ne]
    exact h.e, h.rw.put h.nd ea, h.nd, h.nw, h.np, h.n0⟩
theorem RowsN.start {a : Addr} {H0 G : Hp} {pr : Addr} (s : Stp a H0 G) (s0 : Src H0 a) (hp : G pr = none) : RowsN a H0 (upd G pr (.lst [])) pr [] [] :=
  ⟨s.new hp, s0, upd_same, ⟨rfl, fun i x r e => by simp at e⟩, List.nodup_nil, fun x hx => by simp at hx, by simp, s.free hp⟩
/-- one row more -/
theorem RowsN.push {a : Addr} {H0 G F : Hp} {pr D : Addr} {as : List Addr} {Rs : List (List Int)} {ns : List Int} (h : RowsN a H0 G pr as Rs) (s : Stp a G F) (hD : G D = none) (eD : F D = some (.lst (ns.map V.int))) :
    RowsN a H0 (upd F pr (.lst (as.map V.ref ++ [.ref D]))) pr (as ++ [D]) (Rs ++ [ns]) := by
  have h' := h.go s
  have dp : D ≠ pr := fun z => by
    have e := h.e
    rw [← z, hD] at e
    cases e
  have nin : D ∉ as := fun z => by
    obtain ⟨i, hi, e⟩ := List.getElem_of_mem z
    obtain ⟨x, r, e1, e2, e3⟩ := h.rw.at (i := i) (by rw [← h.rw.1]; exact hi)
    rw [List.getElem?_eq_getElem hi, e] at e1
    cases e1
    rw [hD] at e3
    cases e3
  refine ⟨h'.st.put h.s0 h.n0, h.s0, by rw [List.map_append]; exact upd_same, ⟨by simp [h.rw.1], fun i x r e1 e2 => ?_⟩, ?_, fun x hx => ?_, ?_, h.n0⟩
  · by_cases hi : i < as.length
    · rw [List.getElem?_append_left hi] at e1
      rw [List.getElem?_append_left (by rw [← h.rw.1]; exact hi)] at e2
      have ne : x ≠ pr := fun z => h.np (by rw [← z]; exact List.mem_of_getElem? e1)
      rw [upd_ne ne]
      exact h'.rw.2 i x r e1 e2
    · rw [List.getElem?_append_right (by omega)] at e1
      rw [List.getElem?_append_right (by rw [← h.rw.1]; omega), ← h.rw.1] at e2
      have ei : i - as.length = 0 := by
        have := (List.getElem?_eq_some_iff.mp e1).1
        simp at this
        omega
      rw [ei] at e1 e2
      have e1' : D = x := by simpa using e1
      have e2' : ns = r := by simpa using e2
      subst e1' e2'
      rw [upd_ne dp]
      exact eD
  · rw [List.nodup_append]
    refine ⟨h.nd, by simp, fun x hx y hy z => ?_⟩
    have : y = D := by simpa using hy
    subst this
    subst z
    exact nin hx
  · rcases List.mem_append.mp hx with q | q
    · exact h.nw x q
    · have : x = D := by simpa using q
      rw [this]
      exact h.st.free hD
  · intro z
    rcases List.mem_append.mp z with q | q
    · exact h.np q
    · have : pr = D := by simpa using q
      exact dp this.symm
def spDiag (K : PySem.W.Frag) : Sp := fun vs H Q _ => ∃ (a pr : Addr) (as : List Addr) (Rs : List (List Int)) (n : Nat) (H0 : Hp), vs = [.ref a, .ref pr] ∧ 1 ≤ n ∧ n ≤ 900 ∧ RowsN a H0 H pr as Rs ∧ Sz n Rs ∧
  ∀ t H' M, Stp a H0 H' → Mx true true K H' t M → Sz n M → (∀ i < n, ∀ j < n, i ≠ j → getM M i j = getM Rs i j) → (∀ i < n, -3 ≤ getM M i i ∧ getM M i i ≤ 3) → Q (.ref t) H'
/-! ### landmarks: the least one that is not less -/
def rnd : List Int → Int → Int → Int
  | [], w, _ => w
  | m :: ms, w, x => if x ≤ m then min m (rnd ms w x) else rnd ms w x
/-- what the rounded number is -/
def IsR (ms : List Int) (w x r : Int) : Prop := (r = w ∨ (r ∈ ms ∧ x ≤ r)) ∧ r ≤ w ∧ ∀ y ∈ ms, x ≤ y → r ≤ y
theorem rnd_is : ∀ (ms : List Int) (w x : Int), IsR ms w x (rnd ms w x)
  | [], w, x => ⟨.inl rfl, Int.le_refl _, fun y h => by simp at h⟩
  | m :: ms, w, x => by
    obtain ⟨h1, h2, h3⟩ := rnd_is ms w x
    unfold rnd
    split
    · rename_i c
      by_cases l : m ≤ rnd ms w x
      · rw [Int.min_eq_left l]
        refine ⟨.inr ⟨List.mem_cons_self, c⟩, by omega, fun y hy hx => ?_⟩
        rcases List.mem_cons.mp hy with rfl | hy
        · exact Int.le_refl _
        · have := h3 y hy hx
          omega
      · rw [Int.min_eq_right (by omega)]
        refine ⟨?_, h2, fun y hy hx => ?_⟩
        · rcases h1 with h | ⟨a, b⟩
          · exact .inl h
          · exact .inr ⟨List.mem_cons_of_mem _ a, b⟩
        · rcases List.mem_cons.mp hy with rfl | hy
          · omega
          · exact h3 y hy hx
    · rename_i c
      refine ⟨?_, h2, fun y hy hx => ?_⟩
      · rcases h1 with h | ⟨a, b⟩
        · exact .inl h
        · exact .inr ⟨List.mem_cons_of_mem _ a, b⟩
      · rcases List.mem_cons.mp hy with rfl | hy
        · exact absurd hx c
        · exact h3 y hy hx
theorem IsR.uniq {ms : List Int} {w x r s : Int} (h : IsR ms w x r) (k : IsR ms w x s) : r = s := by
  have a : r ≤ s := by
    rcases k.1 with e | ⟨e1, e2⟩
    · rw [e]; exact h.2.1
    · exact h.2.2 s e1 e2
  have b : s ≤ r := by
    rcases h.1 with e | ⟨e1, e2⟩
    · rw [e]; exact k.2.1
    · exact k.2.2 r e1 e2
  omega
theorem IsR.eq {ms : List Int} {w x r : Int} (h : IsR ms w x r) : r = rnd ms w x := h.uniq (rnd_is ms w x)
theorem rnd_ge {ms : List Int} {w x : Int} (h : x ≤ w) : x ≤ rnd ms w x := by
  rcases (rnd_is ms w x).1 with e | ⟨_, e⟩
  · rw [e]; exact h
  · exact e
theorem rnd_le {ms : List Int} {w x : Int} : rnd ms w x ≤ w := (rnd_is ms w x).2.1
theorem rnd_mono {ms : List Int} {w x y : Int} (h : x ≤ y) : rnd ms w x ≤ rnd ms w y := by
  rcases (rnd_is ms w y).1 with e | ⟨e1, e2⟩
  · rw [e]; exact rnd_le
  · exact (rnd_is ms w x).2.2 _ e1 (by omega)
theorem rnd_idem {ms : List Int} {w x : Int} : rnd ms w (rnd ms w x) = rnd ms w x := by
  refine (IsR.eq ⟨?_, rnd_le, fun y _ h => h⟩).symm
  rcases (rnd_is ms w x).1 with e | ⟨e1, e2⟩
  · exact .inl e
  · exact .inr ⟨e1, Int.le_refl _⟩
/-- the ranges, as rows of two numbers -/
def wid (Rs : List (List Int)) (i j : Nat) : Int := if i = j then 0 else (([0, 0] :: Rs).getD i []).getD 1 0 - (([0, 0] :: Rs).getD j []).getD 0 0
def rndM (ms : List Int) (Rs : List (List Int)) (B : Nat → Nat → Int) (i j : Nat) : Int := if i = j then 0 else rnd ms (wid Rs i j) (B i j)
def spMark (K : PySem.W.Frag) : Sp := fun vs H Q _ => ∃ (p : Addr) (ms : List Int) (x : Int), vs = [.ref p, .int x] ∧ SqT K H p (ms.map V.int) ∧ ms.Pairwise (· < ·) ∧ ms.length ≤ 100 ∧
  ∀ v, ((∃ m, v = .int m ∧ m ∈ ms ∧ x ≤ m ∧ ∀ y ∈ ms, x ≤ y → m ≤ y) ∨ (v = .non ∧ ∀ y ∈ ms, y < x)) → Q v H
def spRnd (K : PySem.W.Frag) : Sp := fun vs H Q _ => ∃ (p : Addr) (ms : List Int) (x w : Int), vs = [.int x, .int w, .ref p] ∧ SqT K H p (ms.map V.int) ∧ ms.Pairwise (· < ·) ∧ ms.length ≤ 100 ∧ Q (.int (rnd ms w x)) H
def spRound (K : PySem.W.Frag) : Sp := fun vs H Q _ => ∃ (v : V) (B : Option (List (List Int))) (p q : Addr) (Rs : List (List Int)) (ms : List Int), vs = [v, .ref q, .ref p] ∧ BoxAt K H v B ∧ BSz (Rs.length + 1) B ∧ Mx true true K H q Rs ∧ (∀ r ∈ Rs, r.length = 2) ∧ Rs.length ≤ 100 ∧
  SqT K H p (ms.map V.int) ∧ ms.Pairwise (· < ·) ∧ ms.length ≤ 100 ∧ ∀ v H' B', Same H H' → BoxAt K H' v B' → (match B with | none => B' = none | some M => Best (Rs.length + 1) (rndM ms Rs (getM M)) B') → Q v H'
theorem pw_at {ms : List Int} (h : ms.Pairwise (· < ·)) {i j : Nat} {x y : Int} (e1 : ms[i]? = some x) (e2 : ms[j]? = some y) (l : i < j) : x < y := by
  obtain ⟨l1, q1⟩ := List.getElem?_eq_some_iff.mp e1
  obtain ⟨l2, q2⟩ := List.getElem?_eq_some_iff.mp e2
  rw [← q1, ← q2]
  exact List.pairwise_iff_getElem.mp h i j l1 l2 l
theorem wipe_off {σ : L2.St} {j : Nat} {x : Option V} : ∀ {vs : List Nat}, j ∉ vs → wipe (σ.set j x) vs = (wipe σ vs).set j x
  | [], _ => rfl
  | v :: vs, h => by
    have n : v ≠ j := fun z => h (by rw [z]; exact List.mem_cons_self)
    show (wipe (σ.set j x) vs).set v none = ((wipe σ vs).set v none).set j x
    rw [wipe_off fun z => h (List.mem_cons_of_mem _ z), List.set_comm _ _ n.symm]
theorem wipe_set {σ : L2.St} {j : Nat} {x : Option V} : ∀ {vs : List Nat}, j ∈ vs → wipe (σ.set j x) vs = wipe σ vs
  | [], h => by simp at h
  | v :: vs, h => by
    show (wipe (σ.set j x) vs).set v none = (wipe σ vs).set v none
    by_cases hj : j ∈ vs
    · rw [wipe_set hj]
    · have e : j = v := by
        rcases List.mem_cons.mp h with e | e
        · exact e
        · exact absurd e hj
      subst e
      rw [wipe_off hj, List.set_set]
theorem wipe_sub {σ : L2.St} {vs : List Nat} : ∀ {us : List Nat}, (∀ u ∈ us, u ∈ vs) → wipe (wipe σ us) vs = wipe σ vs
  | [], _ => rfl
  | u :: us, h => by
    show wipe ((wipe σ us).set u none) vs = _
    rw [wipe_set (h u List.mem_cons_self), wipe_sub fun x hx => h x (List.mem_cons_of_mem _ hx)]
/-- three names of a block are gone again -/
theorem wipe3 {σ : L2.St} {a b c : Nat} {x y z : Option V} : wipe ((((wipe σ [a, b, c]).set a x).set b y).set c z) [a, b, c] = wipe σ [a, b, c] := by
  rw [wipe_set (by simp), wipe_set (by simp), wipe_set (by simp), wipe_sub fun u h => h]
section
variable {P : Program} {w : World} {K : PySem.W.Frag} {mg : Str → Option Value} {base : Heap}
theorem ok_least_mark (T : Txt w K mg) : FnOk P w K mg base CX0 1 T.a_least_mark T.d_least_mark p_least_mark (spMark K) := by
  refine T.F_least_mark.ok sc_least_mark (fun vs H Q E h => ?_) (fun cdv A outer s H vs Q E hr h => ?_)
  · obtain ⟨p, ms, x, rfl, _⟩ := h
    rfl
  obtain ⟨p, ms, x, rfl, hp, hs, hn, q⟩ := h
  refine ⟨_, (pss_cons (ps_set (i := 2) sc_least_mark.nd rfl (Or.inl rfl) pe_int)
      (pss_cons (ps_set (i := 3) sc_least_mark.nd rfl (Or.inl rfl) (pe_callB call_len_seq rfl T.z_len PySem.boot_len (pa_cons (pv 0) pa_nil)))
      (pss_cons (ps_while PassesOwn.never (pt_cmpR op_lt (pv 2) (pv 3) (nomark _)) (pss_cons (ps_set (i := 4) sc_least_mark.nd rfl (Or.inl rfl) (pe_op op_fdivN (pe_op op_add (pv 2) (pv 3)) pe_int))
      (pss_one (ps_if (pt_cmpR op_lt (pe_ix ix_tup (pv 0) (pv 4) (fun _ _ => rfl)) (pv 1) (nomark _)) (pss_one (ps_set (i := 2) sc_least_mark.nd rfl (Or.inl rfl) (pe_op op_add (pv 4) pe_int))) (pss_one (ps_set (i := 3) sc_least_mark.nd rfl (Or.inl rfl) (pv 4)))))))
      (pss_one (ps_ret (pe_ifExp (pt_cmpR op_lt (pv 2) (pe_callB call_len_seq rfl T.z_len PySem.boot_len (pa_cons (pv 0) pa_nil)) (nomark _)) (pe_ix ix_tup (pv 0) (pv 2) (fun _ _ => rfl)) pe_non)))))), ?_⟩
  refine ⟨_, rfl, p, _, rfl, .inr hp, ?_⟩
  rw [List.length_map]
  refine ⟨fun m σ G => ∃ (lo hi : Nat) (u : Option V), σ = [some (.ref p), some (.int x), some (.int lo), some (.int hi), u] ∧ G = H ∧ m = hi - lo ∧ lo ≤ hi ∧ hi ≤ ms.length ∧ (∀ k y, k < lo → ms[k]? = some y → y < x) ∧ ∀ k y, hi ≤ k → ms[k]? = some y → x ≤ y,
    ⟨ms.length - 0, 0, ms.length, none, rfl, rfl, rfl, Nat.zero_le _, Nat.le_refl _, fun k y h => by omega, fun k y h e => by rw [List.getElem?_eq_none h] at e; cases e⟩, ?_⟩
  rintro m σ G ⟨lo, hi, u, rfl, rfl, rfl, h1, h2, h3, h4⟩
  refine ⟨_, rfl, _, rfl, _, _, rfl, rfl, _, rfl, ite2 (fun c => ?_) (fun c => ?_)⟩
  · have c' : lo < hi := by
      have := of_decide_eq_true c
      omega
    have md : ((lo : Int) + (hi : Int)).fdiv 2 = (((lo + hi) / 2 : Nat) : Int) := by
      rw [Int.fdiv_eq_ediv_of_nonneg _ (by decide)]
      omega
    refine ⟨fun σ F => ∃ m' < hi - lo, ∃ (lo hi : Nat) (u : Option V), σ = [some (.ref p), some (.int x), some (.int lo), some (.int hi), u] ∧ F = G ∧ m' = hi - lo ∧ lo ≤ hi ∧ hi ≤ ms.length ∧ (∀ k y, k < lo → ms[k]? = some y → y < x) ∧ ∀ k y, hi ≤ k → ms[k]? = some y → x ≤ y, fun σ F h => h, ?_⟩
    refine ⟨_, rfl, _, rfl, _, _, rfl, rfl, _, _, rfl, rfl, ⟨by decide, by decide⟩, ?_⟩
    simp only [md]
    have hm : (lo + hi) / 2 < ms.length := by omega
    have em : ms[(lo + hi) / 2]? = some ms[(lo + hi) / 2] := List.getElem?_eq_getElem hm
    generalize ms[(lo + hi) / 2] = y at em
    refine ⟨_, rfl, _, rfl, p, _, _, _, rfl, rfl, hp, atI_nat (map_get em), _, rfl, _, _, rfl, rfl, _, rfl, ite2 (fun d => ?_) (fun d => ?_)⟩
    · have d' : y < x := of_decide_eq_true d
      refine ⟨_, rfl, _, _, rfl, rfl, hi - ((lo + hi) / 2 + 1), by omega, (lo + hi) / 2 + 1, hi, some (.int (((lo + hi) / 2 : Nat) : Int)), rfl, rfl, rfl, by omega, h2, fun k z hk ek => ?_, h4⟩
      by_cases e : k = (lo + hi) / 2
      · subst e
        rw [em] at ek
        cases ek
        exact d'
      · have := pw_at hs ek em (by omega)
        omega
    · have d' : ¬ y < x := of_decide_eq_false (Bool.eq_false_iff.mpr d)
      refine ⟨_, rfl, (lo + hi) / 2 - lo, by omega, lo, (lo + hi) / 2, some (.int (((lo + hi) / 2 : Nat) : Int)), rfl, rfl, rfl, by omega, by omega, h3, fun k z hk ek => ?_⟩
      by_cases e : k = (lo + hi) / 2
      · subst e
        rw [em] at ek
        cases ek
        omega
      · have := pw_at hs em ek (by omega)
        omega
  · have c' : ¬ lo < hi := by
      have := of_decide_eq_false (Bool.eq_false_iff.mpr c)
      omega
    have eh : hi = lo := by omega
    subst eh
    refine ⟨_, rfl, _, rfl, p, _, rfl, .inr hp, _, _, rfl, rfl, _, rfl, ite2 (fun d => ?_) (fun d => ?_)⟩
    · have d' : hi < ms.length := by
        have := of_decide_eq_true d
        rw [List.length_map] at this
        omega
      have em : ms[hi]? = some ms[hi] := List.getElem?_eq_getElem d'
      refine ⟨_, rfl, _, rfl, p, _, _, _, rfl, rfl, hp, atI_nat (map_get em), q _ (.inl ⟨_, rfl, List.getElem_mem d', h4 _ _ (Nat.le_refl _) em, fun y hy hx => ?_⟩)⟩
      obtain ⟨k, hk, ek⟩ := List.getElem_of_mem hy
      have ek' : ms[k]? = some y := by rw [List.getElem?_eq_getElem hk, ek]
      by_cases l : k < hi
      · have := h3 k y l ek'
        omega
      · by_cases e : k = hi
        · subst e
          rw [em] at ek'
          cases ek'
          exact Int.le_refl _
        · have := pw_at hs em ek' (by omega)
          omega
    · have d' : ¬ hi < ms.length := fun z => d (decide_eq_true (by rw [List.length_map]; omega))
      refine q _ (.inr ⟨rfl, fun y hy => ?_⟩)
      obtain ⟨k, hk, ek⟩ := List.getElem_of_mem hy
      exact h3 k y (by omega) (by rw [List.getElem?_eq_getElem hk, ek])
theorem ok_rounded (T : Txt w K mg) : FnOk P w K mg base CX0 2 T.a_rounded T.d_rounded p_rounded (spRnd K) := by
  have g_least_mark := ok_least_mark (P := P) (w := w) (K := K) (base := base) T
  refine T.F_rounded.ok sc_rounded (fun vs H Q E h => ?_) (fun cdv A outer s H vs Q E hr h => ?_)
  · obtain ⟨p, ms, x, wd, rfl, _⟩ := h
    rfl
  obtain ⟨p, ms, x, wd, rfl, hp, hs, hn, q⟩ := h
  refine ⟨_, (pss_cons (ps_set (i := 3) sc_rounded.nd rfl (Or.inl rfl) (pe_call g_least_mark (hr.mono (by first | decide | omega)) rfl T.m_least_mark T.F_least_mark.kp T.b_least_mark .nil pass0 (pa_cons (pv 2) (pa_cons (pv 0) pa_nil))))
      (pss_one (ps_ret (pe_ifExp (pt_cmpR op_isN (pv 3) pe_non (nomark _)) (pv 1) (pe_callB (call_min2 rfl) rfl T.z_min bb_min (pa_cons (pv 3) (pa_cons (pv 1) pa_nil))))))), ?_⟩
  refine ⟨_, rfl, _, rfl, p, ms, x, rfl, hp, hs, hn, fun v hv => ?_⟩
  rcases hv with ⟨m, rfl, m1, m2, m3⟩ | ⟨rfl, m1⟩
  · refine ⟨_, rfl, rfl, _, rfl, ifF rfl ⟨_, rfl, _, rfl, _, _, rfl, ?_⟩⟩
    have e : (if wd < m then wd else m) = rnd ms wd x := by
      refine IsR.eq ⟨?_, ?_, fun y hy hx => ?_⟩
      · split
        · exact .inl rfl
        · exact .inr ⟨m1, m2⟩
      · split <;> omega
      · have := m3 y hy hx
        split <;> omega
    rw [e]
    exact q
  · refine ⟨_, rfl, rfl, _, rfl, ifT rfl ⟨_, rfl, ?_⟩⟩
    have e : wd = rnd ms wd x := IsR.eq ⟨.inl rfl, Int.le_refl _, fun y hy hx => by
      have := m1 y hy
      omega⟩
    rw [← e] at q
    exact q
theorem ok_round_box (T : Txt w K mg) : FnOk P w K mg base CX0 3 T.a_round_box T.d_round_box p_round_box (spRound K) := by
  have g_rounded := ok_rounded (P := P) (w := w) (K := K) (base := base) T
  have g_close := ok_close (P := P) (w := w) (K := K) (base := base) T
  refine T.F_round_box.ok sc_round_box (fun vs H Q E h => ?_) (fun cdv A outer s H vs Q E hr h => ?_)
  · obtain ⟨v, B, p, q, Rs, ms, rfl, _⟩ := h
    rfl
  obtain ⟨v, B, p, q, Rs, ms, rfl, hB, zB, hR, hR2, hRn, hp, hs, hn, k⟩ := h
  refine ⟨_, (pss_cons (ps_if (pt_cmpR op_isN (pv 0) pe_non (nomark _)) (pss_one (ps_ret pe_non)) pss_nil)
      (pss_cons (ps_set (i := 3) sc_round_box.nd rfl (Or.inr rfl) (pe_lst (pa_cons (pe_tup (pa_cons pe_int (pa_cons pe_int pa_nil))) (StX.pa_star (pv 1) pa_nil))))
      (pss_one (ps_ret (pe_call g_close (hr.mono (by first | decide | omega)) rfl T.m_close T.F_close.kp T.b_close .nil pass0 (pa_cons (pe_lc (own := [("i", 4), ("_", 5), ("high", 6)]) (g := gTup K 2 (gCons (gName 4) (gCons (gTup K 2 (gCons (gName 5) (gCons (gName 6) gNil))) gNil))) (tt := tYes) rfl sc_round_box.nd (EnT.pi_enumG (by rfl) T.z_enumerate (pa_cons (pv 3) pa_nil)) (blkOk_by (own := [("i", 4), ("_", 5), ("high", 6)]) (N := n_round_box) (sc := defScope s_round_box) (by decide +kernel)) (fun _ _ _ _ _ => (pg_tup rfl (pgs_cons (pg_name (i := 4) sc_round_box.nd rfl (Or.inr rfl)) (pgs_cons (pg_tup rfl (pgs_cons (pg_name (i := 5) sc_round_box.nd rfl (Or.inl rfl)) (pgs_cons (pg_name (i := 6) sc_round_box.nd rfl (Or.inr rfl)) pgs_nil))) pgs_nil)))) (fun _ _ _ _ _ => pts_nil) (fun _ _ _ _ _ => (pe_lc (own := [("j", 7), ("low", 8), ("_", 5)]) (g := gTup K 2 (gCons (gName 7) (gCons (gTup K 2 (gCons (gName 8) (gCons (gName 5) gNil))) gNil))) (tt := tYes) rfl sc_round_box.nd (show PI _ _ _ (EnT.iEnumG K _) from (EnT.pi_enumG (by rfl) T.z_enumerate (pa_cons (pv 3) pa_nil))) (blkOk_by (own := [("j", 7), ("low", 8), ("_", 5)]) (N := n_round_box) (sc := relS _ (defScope s_round_box)) (by decide +kernel)) (fun _ _ _ _ _ => (pg_tup rfl (pgs_cons (pg_name (i := 7) sc_round_box.nd rfl (Or.inl rfl)) (pgs_cons (pg_tup rfl (pgs_cons (pg_name (i := 8) sc_round_box.nd rfl (Or.inl rfl)) (pgs_cons (pg_name (i := 5) sc_round_box.nd rfl (Or.inl rfl)) pgs_nil))) pgs_nil)))) (fun _ _ _ _ _ => pts_nil) (fun _ _ _ _ _ => (pe_ifExp (pt_cmpR op_eq (pv 4) (pv 7) (nomark _)) pe_int (pe_call g_rounded (hr.mono (by first | decide | omega)) rfl T.m_rounded T.F_rounded.kp T.b_rounded .nil pass0 (pa_cons (pe_ix (show IxR _ (rIxT K) from ix_tup) (pe_ix (show IxR _ (rIxT K) from ix_tup) (pv 0) (pv 4) (fun _ _ => rfl)) (pv 7) (fun _ _ => rfl)) (pa_cons (pe_op op_sub (pv 6) (pv 8)) (pa_cons (pv 2) pa_nil))))))))) pa_nil)))))), ?_⟩
  cases B with
  | none =>
    have hB : v = .non := hB
    subst hB
    refine ⟨_, rfl, rfl, _, rfl, ifT rfl (k .non H none (Same.refl _) rfl rfl)⟩
  | some M =>
    obtain ⟨b, rfl, hM⟩ := hB
    refine ⟨_, rfl, rfl, _, rfl, ifF rfl ?_⟩
    have sM : Sz (Rs.length + 1) M := zB M rfl
    obtain ⟨ra, r1, r2, r3⟩ := hR
    refine ⟨(by show 2 ≤ sizeLine; decide), fun t ht => ?_⟩
    have s0 := Same.new ht (.tup [.int 0, .int 0])
    refine ⟨_, rfl, q, ra.map V.ref, rfl, .inl (Same.tup s0 r1), ?_⟩
    refine ⟨(by
      rw [sizeLine_eq]
      simp only [List.length_cons, List.length_append, List.length_map, List.length_nil]
      omega), fun l hl => ?_⟩
    have s1 := s0.trans (Same.new hl (.lst (V.ref t :: (ra.map V.ref ++ []))))
    have mE : Mx false true K (upd (upd H t (.tup [.int 0, .int 0])) l (.lst (V.ref t :: (ra.map V.ref ++ [])))) l ([0, 0] :: Rs) := by
      refine ⟨t :: ra, SqL.of (by rw [upd_same, List.append_nil]; rfl), by simp [r2], fun i a r e1 e2 => ?_⟩
      cases i with
      | zero =>
        simp at e1 e2
        subst e1 e2
        exact Same.tup (Same.new hl _) (SqT.of upd_same)
      | succ i => exact Sq.same s1 (r3 i a r (by simpa using e1) (by simpa using e2))
    generalize (upd (upd H t (.tup [.int 0, .int 0])) l (.lst (V.ref t :: (ra.map V.ref ++ [])))) = H1 at s1 mE
    have lE : ([0, 0] :: Rs).length = Rs.length + 1 := rfl
    have two : ∀ (i : Nat) (r : List Int), ([0, 0] :: Rs)[i]? = some r → ∃ lo hi, r = [lo, hi] ∧ (([0, 0] :: Rs).getD i []).getD 1 0 = hi ∧ (([0, 0] :: Rs).getD i []).getD 0 0 = lo := fun i r e => by
      have l2 : r.length = 2 := by
        rcases List.mem_cons.mp (List.mem_of_getElem? e) with rfl | h
        · rfl
        · exact hR2 r h
      obtain ⟨lo, hi, rfl⟩ : ∃ lo hi, r = [lo, hi] := by
        match r, l2 with
        | [a, b], _ => exact ⟨a, b, rfl⟩
      have eD : ([0, 0] :: Rs).getD i [] = [lo, hi] := by rw [List.getD_eq_getElem?_getD, e]; rfl
      rw [eD]
      exact ⟨lo, hi, rfl, rfl, rfl⟩
    generalize eE : ([0, 0] :: Rs) = Es at mE lE two
    obtain ⟨vs, hv, lv, hrow⟩ := mE.row
    have lv2 : vs.length = Rs.length + 1 := by rw [lv, lE]
    refine ⟨_, rfl, false, l, _, rfl, hv, fun D hD => ?_⟩
    refine lc_it EnT.walk_enumG (LcP (Same H1) (RRow K false (mkM (Rs.length + 1) (rndM ms Rs (getM M))) D) D) (lcp_start hD) (fun i G _ P => Sq.same P.1 hv) ?_ ?_
    · rintro i x G G' hi P ⟨t, u, v, rfl, ht, rfl, eu, ev⟩
      cases eu
      rw [lv2] at hi
      obtain ⟨a, r, rfl, er, ha⟩ := hrow i v ev
      obtain ⟨lo, hh, rfl, w1, w0⟩ := two i r er
      have s2 : Same G (upd G t (.tup [.int i, .ref a])) := Same.new ht _
      have ha2 := Sq.same (P.1.trans s2) ha
      refine ⟨t, _, rfl, SqT.of upd_same, rfl, _, _, rfl, _, _, rfl, a, _, rfl, ha2, rfl, _, _, rfl, _, _, rfl, rfl, rfl, ?_⟩
      refine ⟨rfl, tyes ?_⟩
      show tLc _ _ _ _ _ [some (.ref b), some (.ref q), some (.ref p), some (.ref l), some (.int i), some (.int lo), some (.int hh), none, none] _ _
      have hv2 := Sq.same (P.1.trans s2) hv
      refine ⟨_, rfl, false, l, _, rfl, hv2, fun D2 hD2 => ?_⟩
      refine lc_it EnT.walk_enumG (LcP (Same _) (RInt (mkR (Rs.length + 1) (rndM ms Rs (getM M) i))) D2) (lcp_start hD2) (fun i F _ P2 => Sq.same P2.1 hv2) ?_ ?_
      · rintro j y F F' hj P2 ⟨t3, c1, c2, rfl, ht3, rfl, e1, e2⟩
        cases e1
        rw [lv2] at hj
        obtain ⟨a', r', rfl, er', ha'⟩ := hrow j c2 e2
        obtain ⟨lo', hh', rfl, w1', w0'⟩ := two j r' er'
        have s3 := (P.1.trans s2).trans (P2.1.trans (Same.new ht3 (.tup [.int j, .ref a'])))
        have ha3 := Sq.same s3 ha'
        refine ⟨t3, _, rfl, SqT.of upd_same, rfl, _, _, rfl, _, _, rfl, ?_⟩
        refine ⟨a', _, rfl, ha3, rfl, _, _, rfl, _, _, rfl, rfl, rfl, ?_⟩
        refine ⟨wipe3, tyes ?_⟩
        show tIf _ _ _ [some (.ref b), some (.ref q), some (.ref p), some (.ref l), some (.int i), some (.int hh'), some (.int hh), some (.int j), some (.int lo')] _ _
        refine ⟨_, rfl, _, rfl, rfl, _, rfl, ite2 (fun h => ?_) (fun h => ?_)⟩
        · have hij : i = j := by
            have h' := of_decide_eq_true h
            have := V.int.inj h'
            omega
          subst hij
          refine lcp_same P2 hD2 (Same.new ht3 _) (lt_line (by omega)) RInt.mono ⟨_, mkR_at hj, ?_⟩
          unfold rndM
          rw [if_pos rfl]
        · have hij : i ≠ j := fun z => h (decide_eq_true (by rw [z]))
          obtain ⟨br, eb, lb⟩ := sM.at hi
          obtain ⟨vb, ab, b1, b2, b3⟩ := hM.getT eb
          have sF := s1.trans s3
          have gj : br[j]? = some (getM M i j) := by
            have := List.getElem?_eq_getElem (show j < br.length by omega)
            rw [this, ← getM_of eb this]
          refine ⟨_, rfl, _, rfl, b, _, _, _, rfl, rfl, Same.tup sF b1, b2, _, rfl, ab, _, _, _, rfl, rfl, Same.tup sF b3, atI_nat (map_get gj), ?_⟩
          refine ⟨_, rfl, _, rfl, _, _, rfl, rfl, _, rfl, p, ms, _, _, rfl, Same.tup sF hp, hs, hn, ?_⟩
          refine lcp_same P2 hD2 (Same.new ht3 _) (lt_line (by omega)) RInt.mono ⟨_, mkR_at hj, ?_⟩
          unfold rndM wid
          rw [if_neg hij, if_neg hij, eE, w1, w0']
      · intro F P2
        have e := lcp_ints (K := K) P2 (by rw [lv2, mkR_len])
        exact lcp_same P hD (s2.trans P2.1) (lt_line (by omega)) RRow.mono ⟨D2, _, rfl, mkM_at hi, P.ne (s2.free hD2), SqL.of e⟩
    · intro G P
      have m0 := lcp_rows P (by rw [lv2, mkM_sz.1])
      refine ⟨false, false, D, _, Rs.length + 1, rfl, m0, mkM_sz, by omega, fun v H' B' s' hB' hb => ?_⟩
      refine k v H' B' ((s1.trans P.1).trans s') hB' (hb.congr fun C hC => ?_)
      constructor
      · intro h i hi j hj
        have := h i hi j hj
        rwa [mkM_get hi hj] at this
      · intro h i hi j hj
        rw [mkM_get hi hj]
        exact h i hi j hj
end
/-! ### matrices whose entries are written one after the other -/
def updF (f : Nat → Nat → Int) (i j : Nat) (v : Int) : Nat → Nat → Int := fun a b => if a = i ∧ b = j then v else f a b
theorem mkR_set {n j : Nat} {f : Nat → Int} {v : Int} : (mkR n f).set j v = mkR n fun b => if b = j then v else f b := by
  refine List.ext_getElem? fun b => ?_
  by_cases hb : b < n
  · rw [List.getElem?_set, mkR_at hb, mkR_at hb, mkR_len]
    by_cases e : j = b
    · rw [if_pos e, if_pos e.symm, if_pos (by omega)]
    · rw [if_neg e, if_neg (fun z => e z.symm)]
  · rw [List.getElem?_eq_none (by rw [List.length_set, mkR_len]; omega), List.getElem?_eq_none (by rw [mkR_len]; omega)]
theorem mkM_len {n : Nat} {f : Nat → Nat → Int} : (mkM n f).length = n := by simp [mkM]
theorem mkM_put {n i j : Nat} {f : Nat → Nat → Int} {v : Int} : (mkM n f).set i ((mkR n (f i)).set j v) = mkM n (updF f i j v) := by
  refine List.ext_getElem? fun a => ?_
  by_cases ha : a < n
  · rw [List.getElem?_set, mkM_at ha, mkM_at ha, mkM_len, mkR_set]
    by_cases e : i = a
    · subst e
      rw [if_pos rfl, if_pos ha]
      congr 2
      funext b
      unfold updF
      by_cases h : b = j
      · rw [if_pos h, if_pos ⟨rfl, h⟩]
      · rw [if_neg h, if_neg (fun z => h z.2)]
    · rw [if_neg e]
      congr 2
      funext b
      unfold updF
      rw [if_neg (fun z => e z.1.symm)]
  · rw [List.getElem?_eq_none (by rw [List.length_set, mkM_len]; omega), List.getElem?_eq_none (by rw [mkM_len]; omega)]
/-- g ahead of row i, column j, else f -/
def mix (f g : Nat → Nat → Int) (i j : Nat) : Nat → Nat → Int := fun a b => if a < i ∨ (a = i ∧ b < j) then g a b else f a b
theorem mix_step {n i j : Nat} {f g : Nat → Nat → Int} {v : Int} (e : v = g i j) : mkM n (updF (mix f g i j) i j v) = mkM n (mix f g i (j + 1)) := by
  refine mkM_congr fun a ha b hb => ?_
  unfold updF mix
  by_cases h : a = i ∧ b = j
  · obtain ⟨rfl, rfl⟩ := h
    rw [if_pos ⟨rfl, rfl⟩, if_pos (.inr ⟨rfl, by omega⟩), e]
  · rw [if_neg h]
    by_cases k : a < i ∨ (a = i ∧ b < j)
    · rw [if_pos k, if_pos (by omega)]
    · rw [if_neg k, if_neg (by omega)]
theorem mix_skip {n i j : Nat} {f g : Nat → Nat → Int} (e : f i j = g i j) : mkM n (mix f g i j) = mkM n (mix f g i (j + 1)) := by
  refine mkM_congr fun a ha b hb => ?_
  unfold mix
  by_cases k : a < i ∨ (a = i ∧ b < j)
  · rw [if_pos k, if_pos (by omega)]
  · rw [if_neg k]
    by_cases h : a = i ∧ b = j
    · obtain ⟨rfl, rfl⟩ := h
      rw [if_pos (.inr ⟨rfl, by omega⟩), e]
    · rw [if_neg (by omega)]
theorem mix_row {n i : Nat} {f g : Nat → Nat → Int} : mkM n (mix f g i n) = mkM n (mix f g (i + 1) 0) := by
  refine mkM_congr fun a ha b hb => ?_
  unfold mix
  by_cases k : a < i ∨ (a = i ∧ b < n)
  · rw [if_pos k, if_pos (by omega)]
  · rw [if_neg k, if_neg (by omega)]
theorem mix_start {n : Nat} {f g : Nat → Nat → Int} : mkM n (mix f g 0 0) = mkM n f := mkM_congr fun a ha b hb => by
  unfold mix
  rw [if_neg (by omega)]
theorem mix_end {n : Nat} {f g : Nat → Nat → Int} : mkM n (mix f g n 0) = mkM n g := mkM_congr fun a ha b hb => by
  unfold mix
  rw [if_pos (.inl ha)]
theorem mkM_app {n i : Nat} {f : Nat → Nat → Int} (hi : i < n) : (mkM n f).take (i + 1) = (mkM n f).take i ++ [mkR n (f i)] := by
  rw [List.take_add_one, mkM_at hi]
  rfl
def rListOf (K : PySem.W.Frag) : List V → Hp → VK → Prop := fun xs H Q => ∃ p ys, xs = [.ref p] ∧ (SqL K H p ys ∨ SqT K H p ys) ∧ ∀ l, H l = none → Q (.ref l) (upd H l (.lst ys))
def spWid (K : PySem.W.Frag) : Sp := fun vs H Q _ => ∃ (a q : Addr) (Rs : List (List Int)), vs = [.ref q] ∧ Src H a ∧ Mx true true K H q Rs ∧ (∀ r ∈ Rs, r.length = 2) ∧ Rs.length ≤ 100 ∧
  ∀ pr as H', Same H H' → RowsN a H H' pr as (mkM (Rs.length + 1) (wid Rs)) → Q (.ref pr) H'
def spClosedI (K : PySem.W.Frag) : Sp := fun vs H Q _ => ∃ (a pr : Addr) (as : List Addr) (f C : Nat → Nat → Int) (n : Nat) (H0 : Hp), vs = [.ref pr] ∧ n ≤ 900 ∧ RowsN a H0 H pr as (mkM n f) ∧ (∀ i < n, f i i = 0) ∧ Clo n C ∧ LeF n C f ∧
  ∀ v H' N, Same H H' → BoxAt K H' v (some N) → Best n f (some N) → Q v H'
theorem fw_zero {n : Nat} {f : Nat → Nat → Int} (h : ∀ i < n, f i i = 0) : Fw n f 0 f where
  d := fun i hi => by rw [h i hi]; exact Int.le_refl _
  le := LeF.refl _
  gr := fun _ _ h => h
  t := fun _ m hm => by omega
theorem fwS_col {k i : Nat} {g : Nat → Nat → Int} (h : g k k = 0) : fwS k g i k = g i k := by
  unfold fwS
  omega
theorem fwS_row {k j : Nat} {g : Nat → Nat → Int} (h : g k k = 0) : fwS k g k j = g k j := by
  unfold fwS
  omega
section
variable {P : Program} {w : World} {K : PySem.W.Frag} {mg : Str → Option Value} {base : Heap}
theorem ok_l_closed (T : Txt w K mg) : FnOk P w K mg base CX0 1 T.a_l_closed T.d_l_closed p_l_closed (spClosedI K) := by
  refine T.F_l_closed.ok sc_l_closed (fun vs H Q E h => ?_) (fun cdv A outer s H vs Q E hr h => ?_)
  · obtain ⟨a, pr, as, f, C, n, H0, rfl, _⟩ := h
    rfl
  obtain ⟨a, pr, as, f, C, n, H0, rfl, hn, hR, f0, cC, lC, q⟩ := h
  refine ⟨_, (pss_cons (ps_setLc (i := 1) (own := [("_law_row", 2)]) (g := gName 2) (tt := tYes) rfl sc_l_closed.nd rfl rfl (sw_true rfl rfl rfl (by decide +kernel)) (pi_list (pv 0)) (blkOk_by (own := [("_law_row", 2)]) (N := n_l_closed) (sc := defScope s_l_closed) (by decide +kernel)) (fun _ _ _ _ _ => (pg_name (i := 2) sc_l_closed.nd rfl (Or.inl rfl))) (fun _ _ _ _ _ => pts_nil) (fun _ _ _ _ _ => (pe_callTy (show CallR _ _ (rListOf K) from call_list_of) rfl T.z_list bt_list (pa_cons (pv 2) pa_nil))))
      (pss_cons (ps_for PassesOwn.never rfl (pi_range1 rfl T.z_range (pa_cons (pe_callB call_len_seq rfl T.z_len PySem.boot_len (pa_cons (pv 0) pa_nil)) pa_nil)) (pg_name (i := 3) sc_l_closed.nd rfl (Or.inl rfl))
        (pss_one (ps_for PassesOwn.never rfl (pi_range1 rfl T.z_range (pa_cons (pe_callB call_len_seq rfl T.z_len PySem.boot_len (pa_cons (pv 0) pa_nil)) pa_nil)) (pg_name (i := 4) sc_l_closed.nd rfl (Or.inl rfl))
        (pss_one (ps_for PassesOwn.never rfl (pi_range1 rfl T.z_range (pa_cons (pe_callB call_len_seq rfl T.z_len PySem.boot_len (pa_cons (pv 0) pa_nil)) pa_nil)) (pg_name (i := 5) sc_l_closed.nd rfl (Or.inl rfl))
        (pss_one (ps_asg (pe_callB (call_min2 rfl) rfl T.z_min bb_min (pa_cons (pe_ix ix_list (pe_ix ix_list (pv 1) (pv 4) (fun _ _ => rfl)) (pv 5) (fun _ _ => rfl)) (pa_cons (pe_op op_add (pe_ix ix_list (pe_ix ix_list (pv 1) (pv 4) (fun _ _ => rfl)) (pv 3) (fun _ _ => rfl)) (pe_ix ix_list (pe_ix ix_list (pv 1) (pv 3) (fun _ _ => rfl)) (pv 5) (fun _ _ => rfl))) pa_nil))) (pg_sub (pe_ix ix_list (pv 1) (pv 4) (fun _ _ => rfl)) (pv 5) set_list))))))))
      (pss_one (ps_ret (pe_callTy call_tuple_of rfl T.z_tuple bt_tuple (pa_cons (pe_lc (own := [("_law_row", 2)]) (g := gName 2) (tt := tYes) rfl sc_l_closed.nd (pi_list (pv 1)) (blkOk_by (own := [("_law_row", 2)]) (N := n_l_closed) (sc := defScope s_l_closed) (by decide +kernel)) (fun _ _ _ _ _ => (pg_name (i := 2) sc_l_closed.nd rfl (Or.inl rfl))) (fun _ _ _ _ _ => pts_nil) (fun _ _ _ _ _ => (pe_callTy (show CallR _ _ (rTupOf K) from call_tuple_of) rfl T.z_tuple bt_tuple (pa_cons (pv 2) pa_nil)))) pa_nil)))))), ?_⟩
  have la : as.length = n := by rw [hR.rw.1, mkM_len]
  have hS := hR.st.s
  refine ⟨_, rfl, pr, rfl, ⟨_, SqL.of hR.e⟩, fun D hD => ?_⟩
  refine lc_it (walk_list (xs := as.map V.ref)) (fun i G => Same H G ∧ ∃ bs, RowsN a H G D bs ((mkM n f).take i)) ?_ (fun i G _ P => SqL.of (P.1 _ _ hR.e)) ?_ ?_
  · exact ⟨Same.new hD _, [], RowsN.start (Stp.refl hS) hS hD⟩
  · rintro i x G G' hi ⟨sG, bs, hG⟩ ⟨rfl, ex⟩
    rw [List.length_map, la] at hi
    obtain ⟨xa, r, ea, er, e3⟩ := hR.rw.at (i := i) (by rw [mkM_len]; exact hi)
    have exa : x = .ref xa := by
      rw [map_get ea] at ex
      exact (Option.some.inj ex).symm
    subst exa
    rw [mkM_at hi] at er
    cases er
    refine ⟨rfl, tyes ?_⟩
    refine ⟨_, rfl, xa, _, rfl, .inl (SqL.of (sG _ _ e3)), fun l hl => ?_⟩
    have sl := Same.new hl (.lst ((mkR n (f i)).map V.int))
    refine ⟨_, sl _ _ hG.e, lt_line (by rw [List.length_map, hG.rw.1]; have := List.length_take_le' i (mkM n f); rw [mkM_len] at this; omega), ?_, bs ++ [l], ?_⟩
    · exact fun b o e => by
        have ne : b ≠ D := fun z => by rw [z, hD] at e; cases e
        rw [upd_ne ne]
        exact sl _ _ (sG _ _ e)
    · rw [mkM_app hi]
      exact hG.push (Stp.of_same hG.st.s sl) hl upd_same
  · rintro G ⟨sG, bs, hG⟩
    rw [List.length_map, la, List.take_of_length_le (by rw [mkM_len]; omega)] at hG
    have lb : bs.length = n := by rw [hG.rw.1, mkM_len]
    have put : ∀ {G : Hp} {x : Addr} {o : HO}, x ∈ bs → Same H G → Same H (upd G x o) := fun {G x o} hx s b u e => by
      have ne : b ≠ x := fun z => by rw [z, hG.nw x hx] at e; cases e
      rw [upd_ne ne]
      exact s _ _ e
    refine ⟨_, rfl, pr, _, rfl, .inl (SqL.of (sG _ _ hR.e)), _, rfl, by omega, by rw [List.length_map, la]; omega, for_range (lo := 0) (fun k σ G => (∃ x y z : Option V, σ = [some (.ref pr), some (.ref D), none, x, y, z]) ∧ Same H G ∧ ∃ g, RowsN a H G D bs (mkM n g) ∧ Fw n f k g)
      ⟨⟨none, none, none, rfl⟩, sG, f, hG, fw_zero f0⟩ ?_ ?_⟩
    · rintro k σ G hk ⟨⟨x, y, z, rfl⟩, sG, g, hG, fw⟩
      rw [List.length_map, la] at hk
      have hk' : k < n := by omega
      have pos : ∀ i < n, 0 ≤ g i i := fun i hi => by
        have h1 := fw.gr C cC lC i hi i hi
        have h2 := cC.d i hi
        omega
      have gkk : g k k = 0 := by
        have h1 := pos k hk'
        have h2 := fw.d k hk'
        omega
      refine ⟨_, rfl, pr, _, rfl, .inl (SqL.of (sG _ _ hR.e)), _, rfl, by omega, by rw [List.length_map, la]; omega, for_range (lo := 0) (fun i σ G => (∃ y z : Option V, σ = [some (.ref pr), some (.ref D), none, some (.int (0 + (k : Int))), y, z]) ∧ Same H G ∧ RowsN a H G D bs (mkM n (mix g (fwS k g) i 0)))
        ⟨⟨y, z, rfl⟩, sG, by rw [mix_start]; exact hG⟩ ?_ ?_⟩
      · rintro i σ G hi ⟨⟨y, z, rfl⟩, sG, hG⟩
        rw [List.length_map, la] at hi
        have hi' : i < n := by omega
        refine ⟨_, rfl, pr, _, rfl, .inl (SqL.of (sG _ _ hR.e)), _, rfl, by omega, by rw [List.length_map, la]; omega, for_range (lo := 0) (fun j σ G => (∃ z : Option V, σ = [some (.ref pr), some (.ref D), none, some (.int (0 + (k : Int))), some (.int (0 + (i : Int))), z]) ∧ Same H G ∧ RowsN a H G D bs (mkM n (mix g (fwS k g) i j)))
          ⟨⟨z, rfl⟩, sG, hG⟩ ?_ ?_⟩
        · rintro j σ G hj ⟨⟨z, rfl⟩, sG, hG⟩
          rw [List.length_map, la] at hj
          have hj' : j < n := by omega
          obtain ⟨xi, ri, ei, eri, hi3⟩ := hG.rw.at (i := i) (by rw [mkM_len]; exact hi')
          rw [mkM_at hi'] at eri
          cases eri
          obtain ⟨xk, rk, ek, erk, hk3⟩ := hG.rw.at (i := k) (by rw [mkM_len]; exact hk')
          rw [mkM_at hk'] at erk
          cases erk
          have ati : atI (bs.map V.ref) (0 + (i : Int)) = some (.ref xi) := by rw [Int.zero_add]; exact atI_nat (map_get ei)
          have atk : atI (bs.map V.ref) (0 + (k : Int)) = some (.ref xk) := by rw [Int.zero_add]; exact atI_nat (map_get ek)
          have row : ∀ (u : Nat → Int) {b : Nat}, b < n → atI ((mkR n u).map V.int) (0 + (b : Int)) = some (.int (u b)) := fun u b hb => by rw [Int.zero_add]; exact atI_nat (map_get (mkR_at hb))
          have ix : ixN ((mkR n (mix g (fwS k g) i j i)).map V.int).length (0 + (j : Int)) = some j := by
            have := ixN_int (n := ((mkR n (mix g (fwS k g) i j i)).map V.int).length) (c := 0 + (j : Int)) (by omega) (by rw [List.length_map, mkR_len]; omega)
            rw [this]
            congr 1
            omega
          have m1 : mix g (fwS k g) i j i j = g i j := by unfold mix; rw [if_neg (by omega)]
          have m2 : mix g (fwS k g) i j i k = g i k := by
            unfold mix
            split
            · exact fwS_col gkk
            · rfl
          have m3 : mix g (fwS k g) i j k j = g k j := by
            unfold mix
            split
            · exact fwS_row gkk
            · rfl
          have hD3 := SqL.of (K := K) hG.e
          refine ⟨_, rfl, _, rfl, D, _, _, _, rfl, rfl, hD3, ati, _, rfl, xi, _, _, _, rfl, rfl, SqL.of hi3, row _ hj', ?_⟩
          refine ⟨_, rfl, _, rfl, D, _, _, _, rfl, rfl, hD3, ati, _, rfl, xi, _, _, _, rfl, rfl, SqL.of hi3, row _ hk', ?_⟩
          refine ⟨_, rfl, _, rfl, D, _, _, _, rfl, rfl, hD3, atk, _, rfl, xk, _, _, _, rfl, rfl, SqL.of hk3, row _ hj', _, _, rfl, rfl, ?_⟩
          refine ⟨_, _, rfl, ?_⟩
          refine ⟨_, rfl, _, rfl, D, _, _, _, rfl, rfl, hD3, ati, _, rfl, xi, _, _, _, rfl, rfl, hi3, ix, ?_⟩
          rw [← List.map_set]
          have hp := hG.put (r' := (mkR n (mix g (fwS k g) i j i)).set j (if mix g (fwS k g) i j i k + mix g (fwS k g) i j k j < mix g (fwS k g) i j i j then mix g (fwS k g) i j i k + mix g (fwS k g) i j k j else mix g (fwS k g) i j i j)) ei
          refine ⟨⟨_, rfl⟩, put (List.mem_of_getElem? ei) sG, ?_⟩
          rw [mkM_put, mix_step] at hp
          · exact hp
          · rw [m1, m2, m3]
            unfold fwS
            split <;> omega
        · rintro σ G ⟨⟨z, rfl⟩, sG, hG⟩
          rw [List.length_map, la, Int.toNat_natCast, mix_row] at hG
          exact ⟨⟨_, _, rfl⟩, sG, hG⟩
      · rintro σ G ⟨⟨y, z, rfl⟩, sG, hG⟩
        rw [List.length_map, la, Int.toNat_natCast, mix_end] at hG
        exact ⟨⟨_, _, _, rfl⟩, sG, _, hG, fw.step hk' pos⟩
    · rintro σ G ⟨⟨x, y, z, rfl⟩, sG, g, hG, fw⟩
      rw [List.length_map, la, Int.toNat_natCast] at fw
      have pos : ∀ i < n, 0 ≤ g i i := fun i hi => by
        have h1 := fw.gr C cC lC i hi i hi
        have h2 := cC.d i hi
        omega
      refine ⟨_, rfl, D, rfl, ⟨_, SqL.of hG.e⟩, fun D2 hD2 => ?_⟩
      refine lc_it (walk_list (xs := bs.map V.ref)) (LcP (Same G) (RRow K true (mkM n g) D2) D2) (lcp_start hD2) (fun i F _ P => SqL.of (P.1 _ _ hG.e)) ?_ ?_
      · rintro i x F F' hi P ⟨rfl, ex⟩
        rw [List.length_map, lb] at hi
        obtain ⟨xa, r, ea, er, e3⟩ := hG.rw.at (i := i) (by rw [mkM_len]; exact hi)
        have exa : x = .ref xa := by
          rw [map_get ea] at ex
          exact (Option.some.inj ex).symm
        subst exa
        rw [mkM_at hi] at er
        cases er
        refine ⟨rfl, tyes ?_⟩
        refine ⟨_, rfl, xa, _, rfl, .inl ⟨SqL.of (P.1 _ _ e3), fun l hl => ?_⟩⟩
        exact lcp_same P hD2 (Same.new hl _) (lt_line (by omega)) RRow.mono ⟨l, _, rfl, mkM_at hi, P.ne hl, Sq.upd_sameT⟩
      · intro F P
        obtain ⟨cs, h1, h2, h3⟩ := lcp_rows P (by rw [List.length_map, lb, mkM_len])
        refine ⟨D2, _, rfl, .inl ⟨h1, fun l hl => ?_⟩⟩
        exact q _ _ (mkM n g) ((sG.trans P.1).trans (Same.new hl _)) ⟨l, rfl, cs, Sq.upd_sameT, h2, fun i a r e1 e2 => Sq.same (Same.new hl _) (h3 i a r e1 e2)⟩ (fw.done pos)
end
/-! ### the widest matrix, the rounded one, and what is below what -/
def spDue (K : PySem.W.Frag) : Sp := fun vs H Q _ => ∃ (a b q p : Addr) (M Rs : List (List Int)) (ms : List Int), vs = [.ref b, .ref q, .ref p] ∧ Src H a ∧ Mx true true K H b M ∧ Sz (Rs.length + 1) M ∧ Clo (Rs.length + 1) (getM M) ∧ LeF (Rs.length + 1) (getM M) (rndM ms Rs (getM M)) ∧
  Mx true true K H q Rs ∧ (∀ r ∈ Rs, r.length = 2) ∧ Rs.length ≤ 100 ∧ SqT K H p (ms.map V.int) ∧ ms.length ≤ 100 ∧
  ∀ v H' N, Same H H' → BoxAt K H' v (some N) → Best (Rs.length + 1) (rndM ms Rs (getM M)) (some N) → Q v H'
def spBelow (K : PySem.W.Frag) : Sp := fun vs H Q _ => ∃ (t1 t2 : Bool) (p q : Addr) (M N : List (List Int)) (n : Nat), vs = [.ref p, .ref q] ∧ Mx true true K H p M ∧ Mx t1 t2 K H q N ∧ Sz n M ∧ Sz n N ∧ n ≤ 900 ∧ LeF n (getM M) (getM N) ∧ Q (.bl true) H
theorem Sq.or {K : PySem.W.Frag} {t : Bool} {H : Hp} {p : Addr} {xs : List V} (h : Sq t K H p xs) : SqL K H p xs ∨ SqT K H p xs := by
  cases t
  · exact .inl h
  · exact .inr h
theorem Sq.ix {K : PySem.W.Frag} {t : Bool} {H : Hp} {p : Addr} {xs : List V} {i : Int} {v : V} {Q : VK} (h : Sq t K H p xs) (e : atI xs i = some v) (q : Q v H) : rIxT K (.ref p) (.int i) H Q ∨ rIxL K (.ref p) (.int i) H Q := by
  cases t
  · exact .inr ⟨p, xs, i, v, rfl, rfl, h, e, q⟩
  · exact .inl ⟨p, xs, i, v, rfl, rfl, h, e, q⟩
theorem Mx.get2 {t1 t2 : Bool} {K : PySem.W.Frag} {H : Hp} {p : Addr} {M : List (List Int)} {n i j : Nat} (h : Mx t1 t2 K H p M) (z : Sz n M) (hi : i < n) (hj : j < n) : ∃ (vs : List V) (a : Addr) (r : List Int), Sq t1 K H p vs ∧ vs.length = n ∧ atI vs (0 + (i : Int)) = some (.ref a) ∧ Sq t2 K H a (r.map V.int) ∧ atI (r.map V.int) (0 + (j : Int)) = some (.int (getM M i j)) := by
  obtain ⟨r, er, lr⟩ := z.at hi
  obtain ⟨as, h1, h2, h3⟩ := h
  have ea : as[i]? = some (as[i]'(by rw [h2, z.1]; exact hi)) := List.getElem?_eq_getElem _
  refine ⟨_, _, r, h1, by rw [List.length_map, h2, z.1], by rw [Int.zero_add]; exact atI_nat (map_get ea), h3 i _ r ea er, ?_⟩
  have e : r[j]? = some (r[j]'(by omega)) := List.getElem?_eq_getElem _
  rw [Int.zero_add, getM_of er e]
  exact atI_nat (map_get e)
section
variable {P : Program} {w : World} {K : PySem.W.Frag} {mg : Str → Option Value} {base : Heap}
theorem ok_l_below (T : Txt w K mg) : FnOk P w K mg base CX0 1 T.a_l_below T.d_l_below p_l_below (spBelow K) := by
  refine T.F_l_below.ok sc_l_below (fun vs H Q E h => ?_) (fun cdv A outer s H vs Q E hr h => ?_)
  · obtain ⟨t1, t2, p, q, M, N, n, rfl, _⟩ := h
    rfl
  obtain ⟨t1, t2, p, q, M, N, n, rfl, hM, hN, zM, zN, hn, le, k⟩ := h
  refine ⟨_, (pss_cons (ps_for PassesOwn.never rfl (pi_range1 rfl T.z_range (pa_cons (pe_callB call_len_seq rfl T.z_len PySem.boot_len (pa_cons (pv 1) pa_nil)) pa_nil)) (pg_name (i := 2) sc_l_below.nd rfl (Or.inl rfl))
        (pss_one (ps_for PassesOwn.never rfl (pi_range1 rfl T.z_range (pa_cons (pe_callB call_len_seq rfl T.z_len PySem.boot_len (pa_cons (pv 1) pa_nil)) pa_nil)) (pg_name (i := 3) sc_l_below.nd rfl (Or.inl rfl))
        (pss_one (ps_if (pt_cmpR op_gt (pe_ix ix_tup (pe_ix ix_tup (pv 0) (pv 2) (fun _ _ => rfl)) (pv 3) (fun _ _ => rfl)) (pe_ix (IxR.or ix_tup ix_list) (pe_ix (IxR.or ix_tup ix_list) (pv 1) (pv 2) (fun _ _ => rfl)) (pv 3) (fun _ _ => rfl)) (nomark _)) (pss_one (ps_ret pe_bl)) pss_nil)))))
      (pss_one (ps_ret pe_bl))), ?_⟩
  obtain ⟨ns, h1, h2, h3⟩ := id hN
  have ln : (ns.map V.ref).length = n := by rw [List.length_map, h2, zN.1]
  refine ⟨_, rfl, q, _, rfl, (Sq.or (t := t1) h1), _, rfl, by omega, by rw [ln]; omega, for_range (lo := 0) (fun i σ G => (∃ x y : Option V, σ = [some (.ref p), some (.ref q), x, y]) ∧ G = H) ⟨⟨none, none, rfl⟩, rfl⟩ ?_ ?_⟩
  · rintro i σ G hi ⟨⟨x, y, rfl⟩, rfl⟩
    rw [ln] at hi
    have hi' : i < n := by omega
    refine ⟨_, rfl, q, _, rfl, (Sq.or (t := t1) h1), _, rfl, by omega, by rw [ln]; omega, for_range (lo := 0) (fun j σ F => (∃ y : Option V, σ = [some (.ref p), some (.ref q), some (.int (0 + (i : Int))), y]) ∧ F = G) ⟨⟨y, rfl⟩, rfl⟩ ?_ ?_⟩
    · rintro j σ F hj ⟨⟨y, rfl⟩, rfl⟩
      rw [ln] at hj
      have hj' : j < n := by omega
      obtain ⟨vs, a, r, m1, m2, m3, m4, m5⟩ := hM.get2 zM hi' hj'
      obtain ⟨us, b, r', n1, n2, n3, n4, n5⟩ := hN.get2 zN hi' hj'
      refine ⟨_, rfl, _, rfl, p, _, _, _, rfl, rfl, m1, m3, _, rfl, a, _, _, _, rfl, rfl, m4, m5, ?_⟩
      refine ⟨_, rfl, _, rfl, Sq.ix (t := t1) n1 n3 ⟨_, rfl, Sq.ix (t := t2) n4 n5 ⟨_, _, rfl, rfl, _, rfl, ite2 (fun c => ?_) (fun c => ?_)⟩⟩⟩
      · have := of_decide_eq_true c
        have := le i hi' j hj'
        omega
      · exact ⟨⟨_, rfl⟩, rfl⟩
    · rintro σ F ⟨⟨y, rfl⟩, rfl⟩
      exact ⟨⟨_, _, rfl⟩, rfl⟩
  · rintro σ G ⟨⟨x, y, rfl⟩, rfl⟩
    exact k
theorem ok_l_widest (T : Txt w K mg) : FnOk P w K mg base CX0 1 T.a_l_widest T.d_l_widest p_l_widest (spWid K) := by
  refine T.F_l_widest.ok sc_l_widest (fun vs H Q E h => ?_) (fun cdv A outer s H vs Q E hr h => ?_)
  · obtain ⟨a, q, Rs, rfl, _⟩ := h
    rfl
  obtain ⟨a, q, Rs, rfl, hS, hR, hR2, hRn, k⟩ := h
  refine ⟨_, (pss_cons (ps_set (i := 1) sc_l_widest.nd rfl (Or.inr rfl) (pe_op op_cat (pe_lst (pa_cons (pe_tup (pa_cons pe_int (pa_cons pe_int pa_nil))) pa_nil)) (pe_callTy call_list_of rfl T.z_list bt_list (pa_cons (pv 0) pa_nil))))
      (pss_cons (ps_set (i := 2) sc_l_widest.nd rfl (Or.inl rfl) (pe_lst pa_nil))
      (pss_cons (ps_for PassesOwn.never rfl (pi_range1 rfl T.z_range (pa_cons (pe_callB call_len_seq rfl T.z_len PySem.boot_len (pa_cons (pv 1) pa_nil)) pa_nil)) (pg_name (i := 3) sc_l_widest.nd rfl (Or.inr rfl))
        (pss_one (ps_expr (pe_bm PySem.F.plainAttrs_list PySem.F.slot_list_append PySem.F.type_list_append mt_append (pv 2) (pa_cons (pe_lc (own := [("_law_j", 4)]) (g := gName 4) (tt := tYes) rfl sc_l_widest.nd (pi_range1 rfl T.z_range (pa_cons (pe_callB call_len_seq rfl T.z_len PySem.boot_len (pa_cons (pv 1) pa_nil)) pa_nil)) (blkOk_by (own := [("_law_j", 4)]) (N := n_l_widest) (sc := defScope s_l_widest) (by decide +kernel)) (fun _ _ _ _ _ => (pg_name (i := 4) sc_l_widest.nd rfl (Or.inl rfl))) (fun _ _ _ _ _ => pts_nil) (fun _ _ _ _ _ => (pe_op op_mul (pe_op op_sub (pe_ix (show IxR _ (rIxT K) from ix_tup) (pe_ix (show IxR _ (rIxL K) from ix_list) (pv 1) (pv 3) (fun _ _ => rfl)) pe_int (fun _ _ => rfl)) (pe_ix (show IxR _ (rIxT K) from ix_tup) (pe_ix (show IxR _ (rIxL K) from ix_list) (pv 1) (pv 4) (fun _ _ => rfl)) pe_int (fun _ _ => rfl))) (pe_callTy call_int1 rfl T.z_int bt_int (pa_cons (pe_cmpR op_ne (pv 3) (pv 4) (nomark _)) pa_nil))))) pa_nil)))))
      (pss_one (ps_ret (pv 2)))))), ?_⟩
  obtain ⟨ra, r1, r2, r3⟩ := hR
  refine ⟨(by show 2 ≤ sizeLine; decide), fun t ht => ?_⟩
  have s0 := Same.new ht (.tup [.int 0, .int 0])
  refine ⟨(by show 1 ≤ sizeLine; decide), fun l0 hl0 => ?_⟩
  have s1 := s0.trans (Same.new hl0 (.lst [.ref t]))
  refine ⟨_, rfl, q, _, rfl, .inr (Same.tup s1 r1), fun l1 hl1 => ?_⟩
  have sl := Same.new hl1 (.lst (ra.map V.ref))
  refine ⟨l0, l1, _, _, rfl, rfl, sl _ _ upd_same, upd_same, (by
    rw [sizeLine_eq]
    simp only [List.length_cons, List.length_map, List.length_nil]
    omega), fun e he => ?_⟩
  have s2 := (s1.trans sl).trans (Same.new he (.lst ([.ref t] ++ ra.map V.ref)))
  have mE : Mx false true K (upd (upd (upd (upd H t (.tup [.int 0, .int 0])) l0 (.lst [.ref t])) l1 (.lst (ra.map V.ref))) e (.lst ([.ref t] ++ ra.map V.ref))) e ([0, 0] :: Rs) := by
    refine ⟨t :: ra, SqL.of (by rw [upd_same]; rfl), by simp [r2], fun i a r e1 e2 => ?_⟩
    cases i with
    | zero =>
      simp at e1 e2
      subst e1 e2
      exact Same.tup (((Same.new hl0 _).trans sl).trans (Same.new he _)) (SqT.of upd_same)
    | succ i => exact Sq.same s2 (r3 i a r (by simpa using e1) (by simpa using e2))
  generalize (upd (upd (upd (upd H t (.tup [.int 0, .int 0])) l0 (.lst [.ref t])) l1 (.lst (ra.map V.ref))) e (.lst ([.ref t] ++ ra.map V.ref))) = H1 at s2 mE
  have row : ∀ (i : Nat), i < Rs.length + 1 → ∀ G, Same H1 G → ∃ (vs : List V) (x : Addr), SqL K G e vs ∧ vs.length = Rs.length + 1 ∧ atI vs (0 + (i : Int)) = some (.ref x) ∧ SqT K G x [.int ((([0, 0] :: Rs).getD i []).getD 0 0), .int ((([0, 0] :: Rs).getD i []).getD 1 0)] := fun i hi G sG => by
    obtain ⟨as, g1, g2, g3⟩ := mE.same sG
    have hl : ([0, 0] :: Rs).length = Rs.length + 1 := rfl
    have ea : as[i]? = some (as[i]'(by rw [g2, hl]; exact hi)) := List.getElem?_eq_getElem _
    have er : ([0, 0] :: Rs)[i]? = some (([0, 0] :: Rs)[i]'(by rw [hl]; exact hi)) := List.getElem?_eq_getElem _
    have l2 : (([0, 0] :: Rs)[i]'(by rw [hl]; exact hi)).length = 2 := by
      rcases List.mem_cons.mp (List.getElem_mem (show i < ([0, 0] :: Rs).length by rw [hl]; exact hi)) with z | z
      · rw [z]; rfl
      · exact hR2 _ z
    have t := g3 i _ _ ea er
    have eD : ([0, 0] :: Rs).getD i [] = ([0, 0] :: Rs)[i]'(by rw [hl]; exact hi) := by rw [List.getD_eq_getElem?_getD, er]; rfl
    refine ⟨_, _, g1, by rw [List.length_map, g2]; rfl, by rw [Int.zero_add]; exact atI_nat (map_get ea), ?_⟩
    rw [eD]
    generalize ([0, 0] :: Rs)[i]'(by rw [hl]; exact hi) = r at l2 t
    match r, l2 with
    | [x, y], _ => exact t
  obtain ⟨vs, _, v1, v2, _⟩ := row 0 (by omega) H1 (Same.refl _)
  have hS1 := (Stp.of_same hS s2).s
  refine ⟨(by show 0 ≤ sizeLine; decide), fun pr hpr => ?_⟩
  refine ⟨_, rfl, e, _, rfl, .inl ((Same.new hpr _).seq v1), _, rfl, by omega, by rw [v2]; omega, for_range (lo := 0) (fun i σ G => (∃ x y : Option V, σ = [some (.ref q), some (.ref e), some (.ref pr), x, y]) ∧ Same H1 G ∧ ∃ as, RowsN a H1 G pr as ((mkM (Rs.length + 1) (wid Rs)).take i))
    ⟨⟨none, none, rfl⟩, Same.new hpr _, [], RowsN.start (Stp.refl hS1) hS1 hpr⟩ ?_ ?_⟩
  · rintro i σ G hi ⟨⟨x, y, rfl⟩, sG, as, hG⟩
    rw [v2] at hi
    have hi' : i < Rs.length + 1 := by omega
    obtain ⟨vi, xi, i1, i2, i3, i4⟩ := row i hi' G sG
    refine ⟨_, rfl, .inl ⟨rfl, _, SqL.of hG.e⟩, ?_⟩
    refine ⟨_, rfl, e, _, rfl, .inl i1, _, rfl, by omega, by rw [i2]; omega, fun D hD => ?_⟩
    refine lc_it walk_range (LcP (Same G) (RInt (mkR (Rs.length + 1) (wid Rs i))) D) (lcp_start hD) (fun _ _ _ _ => trivial) ?_ ?_
    · rintro j x F F' hj PF ⟨rfl, rfl⟩
      rw [i2] at hj
      have hj' : j < Rs.length + 1 := by omega
      obtain ⟨vj, xj, j1, j2, j3, j4⟩ := row j hj' F' (sG.trans PF.1)
      obtain ⟨vi, xi, i1, i2, i3, i4⟩ := row i hi' F' (sG.trans PF.1)
      refine ⟨rfl, tyes ?_⟩
      refine ⟨_, rfl, _, rfl, e, _, _, _, rfl, rfl, i1, i3, xi, _, 1, _, rfl, rfl, i4, rfl, ?_⟩
      refine ⟨_, rfl, _, rfl, e, _, _, _, rfl, rfl, j1, j3, xj, _, 0, _, rfl, rfl, j4, rfl, _, _, rfl, rfl, ?_⟩
      refine ⟨_, rfl, _, rfl, rfl, .inr ⟨_, rfl, _, _, rfl, rfl, ?_, ?_⟩⟩
      · refine .inr ?_
        split <;> exact ⟨by decide, by decide⟩
      · refine lcp_same PF hD (Same.refl _) (lt_line (by omega)) RInt.mono ⟨_, mkR_at hj', ?_⟩
        unfold wid
        by_cases h : i = j
        · subst h
          simp
        · rw [if_neg h, if_pos (by simp; omega)]
          exact congrArg V.int (Int.mul_one _)
    · intro F PF
      have eF := PF.1 _ _ hG.e
      have ei := lcp_ints (K := K) PF (by rw [i2, mkR_len]; omega)
      refine ⟨pr, _, _, rfl, rfl, eF, lt_line (by rw [List.length_map, hG.rw.1]; have := List.length_take_le' i (mkM (Rs.length + 1) (wid Rs)); rw [mkM_len] at this; omega), ⟨_, _, rfl⟩, ?_, as ++ [D], ?_⟩
      · exact fun b o eb => by
          have ne : b ≠ pr := fun z => by rw [z, hpr] at eb; cases eb
          rw [upd_ne ne]
          exact PF.1 _ _ (sG _ _ eb)
      · rw [mkM_app hi']
        exact hG.push (Stp.of_same hG.st.s PF.1) hD ei
  · rintro σ G ⟨⟨x, y, rfl⟩, sG, as, hG⟩
    rw [v2, Int.toNat_natCast, List.take_of_length_le (by rw [mkM_len]; omega)] at hG
    exact ⟨_, rfl, k pr as G (s2.trans sG) ⟨(Stp.of_same hS s2).trans hG.st, hS, hG.e, hG.rw, hG.nd, fun x hx => s2.free (hG.nw x hx), hG.np, s2.free hG.n0⟩⟩
theorem ok_l_due (T : Txt w K mg) : FnOk P w K mg base CX0 2 T.a_l_due T.d_l_due p_l_due (spDue K) := by
  have g_l_widest := ok_l_widest (P := P) (w := w) (K := K) (base := base) T
  have g_l_closed := ok_l_closed (P := P) (w := w) (K := K) (base := base) T
  refine T.F_l_due.ok sc_l_due (fun vs H Q E h => ?_) (fun cdv A outer s H vs Q E hr h => ?_)
  · obtain ⟨a, b, q, p, M, Rs, ms, rfl, _⟩ := h
    rfl
  obtain ⟨a, b, q, p, M, Rs, ms, rfl, hS, hM, zM, cM, lM, hR, hR2, hRn, hp, hn, k⟩ := h
  refine ⟨_, (pss_cons (ps_set (i := 3) sc_l_due.nd rfl (Or.inl rfl) (pe_call g_l_widest (hr.mono (by first | decide | omega)) rfl T.m_l_widest T.F_l_widest.kp T.b_l_widest .nil pass0 (pa_cons (pv 1) pa_nil)))
      (pss_cons (ps_for PassesOwn.never rfl (pi_range1 rfl T.z_range (pa_cons (pe_callB call_len_seq rfl T.z_len PySem.boot_len (pa_cons (pv 3) pa_nil)) pa_nil)) (pg_name (i := 4) sc_l_due.nd rfl (Or.inr rfl))
        (pss_one (ps_for PassesOwn.never rfl (pi_range1 rfl T.z_range (pa_cons (pe_callB call_len_seq rfl T.z_len PySem.boot_len (pa_cons (pv 3) pa_nil)) pa_nil)) (pg_name (i := 5) sc_l_due.nd rfl (Or.inr rfl))
        (pss_one (ps_if (pt_cmpR op_ne (pv 4) (pv 5) (nomark _)) (pss_cons (ps_setLc (i := 6) (own := [("_law_mark", 7)]) (g := gName 7) rfl sc_l_due.nd rfl rfl (sw_true rfl rfl rfl (by decide +kernel)) (pi_tup (pv 2)) (blkOk_by (own := [("_law_mark", 7)]) (N := n_l_due) (sc := defScope s_l_due) (by decide +kernel)) (fun _ _ _ _ _ => (pg_name (i := 7) sc_l_due.nd rfl (Or.inl rfl))) (fun _ _ _ _ _ => (pts_one (pt_cmpR op_ge (pv 7) (pe_ix (show IxR _ (rIxT K) from ix_tup) (pe_ix (show IxR _ (rIxT K) from ix_tup) (pv 0) (pv 4) (fun _ _ => rfl)) (pv 5) (fun _ _ => rfl)) (nomark _)))) (fun _ _ _ _ _ => (pv 7)))
      (pss_one (ps_asg (pe_callB (cr_min rfl) rfl T.z_min bb_min (pa_cons (pe_op op_cat (pv 6) (pe_lst (pa_cons (pe_ix ix_list (pe_ix ix_list (pv 3) (pv 4) (fun _ _ => rfl)) (pv 5) (fun _ _ => rfl)) pa_nil))) pa_nil)) (pg_sub (pe_ix ix_list (pv 3) (pv 4) (fun _ _ => rfl)) (pv 5) set_list)))) pss_nil)))))
      (pss_one (ps_ret (pe_call g_l_closed (hr.mono (by first | decide | omega)) rfl T.m_l_closed T.F_l_closed.kp T.b_l_closed .nil pass0 (pa_cons (pv 3) pa_nil)))))), ?_⟩
  refine ⟨_, rfl, a, q, Rs, rfl, hS, hR, hR2, hRn, fun pr as H1 s1 hW => ?_⟩
  generalize en : Rs.length + 1 = n at *
  have la : as.length = n := by rw [hW.rw.1, mkM_len]
  have put : ∀ {G : Hp} {x : Addr} {o : HO}, x ∈ as → Same H G → Same H (upd G x o) := fun {G x o} hx s b u e => by
    have ne : b ≠ x := fun z => by rw [z, hW.nw x hx] at e; cases e
    rw [upd_ne ne]
    exact s _ _ e
  have hpr : (as.map V.ref).length = n := by rw [List.length_map, la]
  refine ⟨_, rfl, pr, _, rfl, .inl (SqL.of hW.e), _, rfl, by omega, by rw [hpr]; omega, for_range (lo := 0) (fun i σ G => (∃ x y z : Option V, σ = [some (.ref b), some (.ref q), some (.ref p), some (.ref pr), x, y, z, none]) ∧ Same H G ∧ RowsN a H G pr as (mkM n (mix (wid Rs) (rndM ms Rs (getM M)) i 0)))
    ⟨⟨none, none, none, rfl⟩, s1, by rw [mix_start]; exact hW⟩ ?_ ?_⟩
  · rintro i σ G hi ⟨⟨x, y, z, rfl⟩, sG, hG⟩
    rw [hpr] at hi
    have hi' : i < n := by omega
    refine ⟨_, rfl, pr, _, rfl, .inl (SqL.of hG.e), _, rfl, by omega, by rw [hpr]; omega, for_range (lo := 0) (fun j σ G => (∃ y z : Option V, σ = [some (.ref b), some (.ref q), some (.ref p), some (.ref pr), some (.int (0 + (i : Int))), y, z, none]) ∧ Same H G ∧ RowsN a H G pr as (mkM n (mix (wid Rs) (rndM ms Rs (getM M)) i j)))
      ⟨⟨y, z, rfl⟩, sG, hG⟩ ?_ ?_⟩
    · rintro j σ G hj ⟨⟨y, z, rfl⟩, sG, hG⟩
      rw [hpr] at hj
      have hj' : j < n := by omega
      refine ⟨_, rfl, _, rfl, rfl, _, rfl, ite2 (fun c => ?_) (fun c => ?_)⟩
      · have ne : i ≠ j := fun z => by
          subst z
          simp at c
        obtain ⟨vs, ab, r, m1, m2, m3, m4, m5⟩ := hM.get2 zM hi' hj'
        refine ⟨_, rfl, p, rfl, ⟨_, Same.tup sG hp⟩, fun D hD => ?_⟩
        refine lc_it (walk_tup (xs := ms.map V.int)) (fun i' F => Same G F ∧ F D = some (.lst (((ms.take i').filter fun m => decide (getM M i j ≤ m)).map V.int))) ⟨Same.new hD _, by rw [List.take_zero]; exact upd_same⟩ (fun i' F _ PF => Same.tup (sG.trans PF.1) hp) ?_ ?_
        · rintro i' x F F' hi'' ⟨sF, eF⟩ ⟨rfl, ex⟩
          obtain ⟨m, em, rfl⟩ := get_int ex
          have sHF := sG.trans sF
          refine ⟨rfl, _, rfl, _, rfl, _, rfl, b, _, _, _, rfl, rfl, Same.tup sHF m1, m3, _, rfl, ab, _, _, _, rfl, rfl, Same.tup sHF m4, m5, _, _, rfl, rfl, _, rfl, ?_⟩
          have tk : (ms.take (i' + 1)).filter (fun m => decide (getM M i j ≤ m)) = (ms.take i').filter (fun m => decide (getM M i j ≤ m)) ++ (if getM M i j ≤ m then [m] else []) := by
            rw [List.take_add_one, em, List.filter_append]
            congr 1
            by_cases h : getM M i j ≤ m <;> simp [h]
          refine ite2 (fun d => ?_) (fun d => ?_)
          · have d' : getM M i j ≤ m := of_decide_eq_true d
            refine ⟨_, rfl, _, eF, lt_line (by
              have h1 := List.length_filter_le (fun m => decide (getM M i j ≤ m)) (ms.take i')
              have h2 := List.length_take_le' i' ms
              rw [List.length_map]
              omega), fun b u e => ?_, ?_⟩
            · have ne : b ≠ D := fun z => by rw [z, hD] at e; cases e
              rw [upd_ne ne]
              exact sF _ _ e
            · rw [upd_same, tk, if_pos d', List.map_append]
              rfl
          · have d' : ¬ getM M i j ≤ m := of_decide_eq_false (Bool.eq_false_iff.mpr d)
            refine ⟨sF, ?_⟩
            rw [tk, if_neg d', List.append_nil]
            exact eF
        · rintro F ⟨sF, eF⟩
          rw [List.length_map, List.take_length] at eF
          have hF := hG.go (Stp.of_same hG.st.s sF)
          have sHF := sG.trans sF
          obtain ⟨xi, ri, ei, eri, hi3⟩ := hF.rw.at (i := i) (by rw [mkM_len]; exact hi')
          rw [mkM_at hi'] at eri
          cases eri
          have ati : atI (as.map V.ref) (0 + (i : Int)) = some (.ref xi) := by rw [Int.zero_add]; exact atI_nat (map_get ei)
          have row : atI ((mkR n (mix (wid Rs) (rndM ms Rs (getM M)) i j i)).map V.int) (0 + (j : Int)) = some (.int (wid Rs i j)) := by
            rw [Int.zero_add, atI_nat (map_get (mkR_at hj'))]
            unfold mix
            rw [if_neg (by omega)]
          have ix : ixN ((mkR n (mix (wid Rs) (rndM ms Rs (getM M)) i j i)).map V.int).length (0 + (j : Int)) = some j := by
            have := ixN_int (n := ((mkR n (mix (wid Rs) (rndM ms Rs (getM M)) i j i)).map V.int).length) (c := 0 + (j : Int)) (by omega) (by rw [List.length_map, mkR_len]; omega)
            rw [this]
            congr 1
            omega
          have la2 : (ms.filter fun m => decide (getM M i j ≤ m)).length ≤ 100 := Nat.le_trans (List.length_filter_le _ _) hn
          refine ⟨_, rfl, _, rfl, _, rfl, pr, _, _, _, rfl, rfl, SqL.of hF.e, ati, _, rfl, xi, _, _, _, rfl, rfl, SqL.of hi3, row, (by show 1 ≤ sizeLine; decide), fun l hl => ?_⟩
          have s5 := Same.new hl (.lst [V.int (wid Rs i j)])
          refine ⟨D, l, _, _, rfl, rfl, s5 _ _ eF, upd_same, (by
            rw [sizeLine_eq, List.length_map]
            show _ + 1 ≤ _
            omega), fun e he => ?_⟩
          have s6 := s5.trans (Same.new he (.lst ((ms.filter fun m => decide (getM M i j ≤ m)).map V.int ++ [V.int (wid Rs i j)])))
          refine ⟨e, (ms.filter fun m => decide (getM M i j ≤ m)) ++ [wid Rs i j], rfl, SqL.of (by rw [upd_same, List.map_append]; rfl), by simp, fun m m1 m2 => ?_⟩
          have hF6 := hF.go (Stp.of_same hF.st.s s6)
          refine ⟨_, rfl, _, rfl, pr, _, _, _, rfl, rfl, SqL.of hF6.e, ati, _, rfl, xi, _, _, _, rfl, rfl, s6 _ _ hi3, ix, ?_⟩
          rw [← List.map_set]
          have hp6 := hF6.put (r' := (mkR n (mix (wid Rs) (rndM ms Rs (getM M)) i j i)).set j m) ei
          refine ⟨⟨_, _, rfl⟩, put (List.mem_of_getElem? ei) (sHF.trans s6), ?_⟩
          rw [mkM_put, mix_step] at hp6
          · exact hp6
          · unfold rndM
            rw [if_neg ne]
            refine IsR.eq ⟨?_, m2 _ (by simp), fun y hy hx => m2 _ (List.mem_append.mpr (.inl (List.mem_filter.mpr ⟨hy, decide_eq_true hx⟩)))⟩
            rcases List.mem_append.mp m1 with z | z
            · obtain ⟨z1, z2⟩ := List.mem_filter.mp z
              exact .inr ⟨z1, of_decide_eq_true z2⟩
            · exact .inl (List.mem_singleton.mp z)
      · have e : i = j := by
          refine Classical.byContradiction fun ne => c ?_
          simp
          omega
        subst e
        refine ⟨⟨_, _, rfl⟩, sG, ?_⟩
        rw [← mix_skip (by unfold wid rndM; rw [if_pos rfl, if_pos rfl])]
        exact hG
    · rintro σ G ⟨⟨y, z, rfl⟩, sG, hG⟩
      rw [hpr, Int.toNat_natCast, mix_row] at hG
      exact ⟨⟨_, _, _, rfl⟩, sG, hG⟩
  · rintro σ G ⟨⟨x, y, z, rfl⟩, sG, hG⟩
    rw [hpr, Int.toNat_natCast, mix_end] at hG
    refine ⟨_, rfl, a, pr, as, rndM ms Rs (getM M), getM M, n, H, rfl, by omega, hG, fun i hi => by unfold rndM; rw [if_pos rfl], cM, lM, fun v H' N s' bN hB => ?_⟩
    exact k v H' N (sG.trans s') bN hB
end
/-! ### drawn ranges, points and boxes -/
def spOneG (K : PySem.W.Frag) : Sp := fun vs H Q _ => ∃ (a p : Addr) (xs : List V) (t : Bool), vs = [.ref a, .ref p] ∧ Src H a ∧ (t = false → p ≠ a) ∧ Sq t K H p xs ∧ 0 < xs.length ∧ xs.length < 1000 ∧ ∀ v H', v ∈ xs → Stp a H H' → Q v H'
def spFar : Sp := fun vs H Q _ => ∃ a : Addr, vs = [.ref a] ∧ Src H a ∧ ∀ (r : Int) H', Stp a H H' → Q (.int r) H'
/-- a range, as a row -/
def IsRg (r : List Int) : Prop := ∃ lo hi, r = [lo, hi] ∧ lo ≤ hi ∧ hi ≤ lo + 2000
def spRanges (K : PySem.W.Frag) : Sp := fun vs H Q _ => ∃ (a : Addr) (n : Nat), vs = [.ref a, .int n] ∧ Src H a ∧ n ≤ 20 ∧ ∀ t H' Rs, Stp a H H' → Mx true true K H' t Rs → Rs.length = n → (∀ r ∈ Rs, IsRg r) → Q (.ref t) H'
/-- a point within ranges -/
def Wi (Rs : List (List Int)) (r : List Int) : Prop := r.length = Rs.length ∧ ∀ (k : Nat) (lo hi v : Int), Rs[k]? = some [lo, hi] → r[k]? = some v → lo ≤ v ∧ v ≤ hi
def spPoints (K : PySem.W.Frag) : Sp := fun vs H Q _ => ∃ (a q : Addr) (Rs : List (List Int)), vs = [.ref a, .ref q] ∧ Src H a ∧ Mx true true K H q Rs ∧ Rs.length ≤ 20 ∧ (∀ r ∈ Rs, IsRg r) ∧
  ∀ p H' Ps, Stp a H H' → H p = none → Pts K H' p Ps → Ps ≠ [] → Ps.length ≤ 21 → (∀ r ∈ Ps, Wi Rs r) → Q (.ref p) H'
def spBox (K : PySem.W.Frag) : Sp := fun vs H Q _ => ∃ (p : Addr) (n : Nat) (Ps : List (List Int)), vs = [.ref p] ∧ n ≤ 900 ∧ Mx false true K H p Ps ∧ (∀ r ∈ Ps, r.length = n) ∧ Ps.length ≤ 1000 ∧ Ps ≠ [] ∧ ∀ v H', Same H H' → BoxAt K H' v (hull n Ps) → Q v H'
theorem sqT_but {K : PySem.W.Frag} {D p : Addr} {H H' : Hp} {xs acc : List V} (b : But D H H') (hD : H D = some (.lst acc)) (h : SqT K H p xs) : SqT K H' p xs := by
  have ne : ∀ {u : HO}, H p = some u → (∀ ys, u ≠ .lst ys) → p ≠ D := fun e n z => by
    rw [z, hD] at e
    exact n _ (Option.some.inj e).symm
  rcases h with (q | ⟨o', q⟩) | q
  · exact .inl (.inl (b _ _ (ne q (fun _ z => nomatch z)) q))
  · exact .inl (.inr ⟨o', b _ _ (ne q (fun _ z => nomatch z)) q⟩)
  · exact .inr q
def RTup (K : PySem.W.Frag) (M : List (List Int)) (D : Addr) : Nat → V → Hp → Prop := fun j y H => ∃ (a : Addr) (r : List Int), y = .ref a ∧ M[j]? = some r ∧ ∀ H', But D H H' → SqT K H' a (r.map V.int)
theorem RTup.mono {K : PySem.W.Frag} {M : List (List Int)} {D : Addr} : ∀ (j : Nat) (z : V) (G G' : Hp), RTup K M D j z G → But D G G' → RTup K M D j z G' := by
  rintro j z G G' ⟨a, r, e1, e2, e3⟩ b
  exact ⟨a, r, e1, e2, fun H' c => e3 H' (b.trans c)⟩
theorem Stp.sq {K : PySem.W.Frag} {a p : Addr} {H H' : Hp} {xs : List V} {t : Bool} (s : Stp a H H') (hs : Src H a) (ne : t = false → p ≠ a) (h : Sq t K H p xs) : Sq t K H' p xs := by
  cases t
  · exact s.rdL h (ne rfl)
  · exact s.rd h hs
section
variable {P : Program} {w : World} {K : PySem.W.Frag} {mg : Str → Option Value} {base : Heap}
theorem ok_l_oneG (T : Txt w K mg) : FnOk P w K mg base CX0 2 T.a_l_one T.d_l_one p_l_one (spOneG K) := by
  have g_l_pick := ok_l_pick (P := P) (w := w) (base := base) T
  refine T.F_l_one.ok sc_l_one (fun vs H Q E h => ?_) (fun cdv A outer s H vs Q E hr h => ?_)
  · obtain ⟨a, p, xs, t, rfl, _⟩ := h
    rfl
  obtain ⟨a, p, xs, t, rfl, hS, ne, hx, h0, h9, q⟩ := h
  refine ⟨_, (pss_one (ps_ret (pe_ix (IxR.or ix_tup ix_list) (pv 1) (pe_call g_l_pick (hr.mono (by first | decide | omega)) rfl T.m_l_pick T.F_l_pick.kp T.b_l_pick .nil pass0 (pa_cons (pv 0) (pa_cons (pe_callB call_len_seq rfl T.z_len PySem.boot_len (pa_cons (pv 1) pa_nil)) pa_nil))) (fun _ _ => rfl)))), ?_⟩
  refine ⟨_, rfl, _, rfl, _, rfl, p, _, rfl, Sq.or (t := t) hx, a, _, rfl, hS, by omega, fun r H' st r0 r1 => ?_⟩
  have hr' : r.toNat < xs.length := by omega
  exact Sq.ix (t := t) (st.sq hS ne hx) (atI_int (xs := xs) r0 hr') (q _ _ (List.getElem_mem hr') st)
theorem ok_l_far (T : Txt w K mg) : FnOk P w K mg base CX0 2 T.a_l_far T.d_l_far p_l_far spFar := by
  have g_l_pick := ok_l_pick (P := P) (w := w) (base := base) T
  refine T.F_l_far.ok sc_l_far (fun vs H Q E h => ?_) (fun cdv A outer s H vs Q E hr h => ?_)
  · obtain ⟨a, rfl, _⟩ := h
    rfl
  obtain ⟨a, rfl, hS, q⟩ := h
  refine ⟨_, (pss_cons (ps_if (pt_cmpR op_eq (pe_call g_l_pick (hr.mono (by first | decide | omega)) rfl T.m_l_pick T.F_l_pick.kp T.b_l_pick .nil pass0 (pa_cons (pv 0) (pa_cons pe_int pa_nil))) pe_int (nomark _)) (pss_one (ps_ret (pe_op op_mul (pe_op op_sub (pe_call g_l_pick (hr.mono (by first | decide | omega)) rfl T.m_l_pick T.F_l_pick.kp T.b_l_pick .nil pass0 (pa_cons (pv 0) (pa_cons pe_int pa_nil))) pe_int) pe_int))) pss_nil)
      (pss_one (ps_ret (pe_op op_sub (pe_call g_l_pick (hr.mono (by first | decide | omega)) rfl T.m_l_pick T.F_l_pick.kp T.b_l_pick .nil pass0 (pa_cons (pv 0) (pa_cons pe_int pa_nil))) pe_int)))), ?_⟩
  refine ⟨_, rfl, a, 4, rfl, hS, by decide, fun r H1 st r0 r1 => ⟨rfl, _, rfl, ite2 (fun _ => ?_) (fun _ => ?_)⟩⟩
  · refine ⟨_, rfl, a, 2000001, rfl, st.s, by decide, fun r2 H2 st2 r20 r21 => ?_⟩
    refine ⟨_, _, rfl, rfl, _, _, rfl, rfl, .inr ⟨by decide, by decide⟩, ?_⟩
    exact q _ _ (st.trans st2)
  · refine ⟨_, rfl, a, 13, rfl, st.s, by decide, fun r2 H2 st2 r20 r21 => ?_⟩
    refine ⟨_, _, rfl, rfl, ?_⟩
    exact q _ _ (st.trans st2)
theorem ok_l_ranges (T : Txt w K mg) : FnOk P w K mg base CX0 3 T.a_l_ranges T.d_l_ranges p_l_ranges (spRanges K) := by
  have g_l_far := ok_l_far (P := P) (w := w) (base := base) T
  have g_l_one := ok_l_oneG (P := P) (w := w) (K := K) (base := base) T
  refine T.F_l_ranges.ok sc_l_ranges (fun vs H Q E h => ?_) (fun cdv A outer s H vs Q E hr h => ?_)
  · obtain ⟨a, n, rfl, _⟩ := h
    rfl
  obtain ⟨a, n, rfl, hS, hn, q⟩ := h
  refine ⟨_, (pss_cons (ps_set (i := 2) sc_l_ranges.nd rfl (Or.inl rfl) (pe_lst pa_nil))
      (pss_cons (ps_for PassesOwn.never rfl (pi_range1 rfl T.z_range (pa_cons (pv 1) pa_nil)) (pg_name (i := 3) sc_l_ranges.nd rfl (Or.inl rfl))
        (pss_cons (ps_set (i := 4) sc_l_ranges.nd rfl (Or.inl rfl) (pe_call g_l_far (hr.mono (by first | decide | omega)) rfl T.m_l_far T.F_l_far.kp T.b_l_far .nil pass0 (pa_cons (pv 0) pa_nil)))
      (pss_one (ps_expr (pe_bm PySem.F.plainAttrs_list PySem.F.slot_list_append PySem.F.type_list_append mt_append (pv 2) (pa_cons (pe_tup (pa_cons (pv 4) (pa_cons (pe_op op_add (pv 4) (pe_call g_l_one (hr.mono (by first | decide | omega)) rfl T.m_l_one T.F_l_one.kp T.b_l_one .nil pass0 (pa_cons (pv 0) (pa_cons (pe_lst (pa_cons pe_int (pa_cons pe_int (pa_cons pe_int (pa_cons pe_int (pa_cons pe_int (pa_cons pe_int (pa_cons pe_int (pa_cons pe_int pa_nil))))))))) pa_nil)))) pa_nil))) pa_nil))))))
      (pss_one (ps_ret (pe_callTy call_tuple_of rfl T.z_tuple bt_tuple (pa_cons (pv 2) pa_nil)))))), ?_⟩
  refine ⟨(by show 0 ≤ sizeLine; decide), fun p hp => ?_⟩
  have s1 : Stp a H (upd H p (.lst [])) := (Stp.refl hS).new hp
  have nap : a ≠ p := hS.ne hp
  refine ⟨_, rfl, _, rfl, by omega, by omega, for_range (lo := 0) (fun i σ G => ∃ (b c : Option V) (Ps : List (List Int)), σ = [some (.ref a), some (.int n), some (.ref p), b, c] ∧ Stp a H G ∧ Ps.length = i ∧ (∀ r ∈ Ps, IsRg r) ∧ PtsN K G p Ps)
    ⟨none, none, [], rfl, s1, rfl, fun r hr => by simp at hr, [], upd_same, rfl, fun i a r e => by simp at e⟩ ?_ ?_⟩
  · rintro i σ G hi ⟨b, c, Ps, rfl, sG, lP, hr', hP⟩
    obtain ⟨as, e1, e2, e3⟩ := hP
    refine ⟨_, rfl, a, rfl, sG.s, fun low H2 st2 => ?_⟩
    have sG2 := sG.trans st2
    have e12 := st2.k _ _ nap.symm e1
    refine ⟨_, rfl, .inl ⟨rfl, _, SqL.of e12⟩, ?_⟩
    refine ⟨_, rfl, _, rfl, _, rfl, (by show 8 ≤ sizeLine; decide), fun l hl => ?_⟩
    have nl : l ≠ a := (sG2.s.ne hl).symm
    have st3 : Stp a H2 (upd H2 l (.lst ([0, 1, 2, 4, 4, 9, 40, 2000].map V.int))) := (Stp.refl sG2.s).new hl
    refine ⟨a, l, _, false, rfl, st3.s, fun _ => nl, SqL.of (upd_same (o := .lst ([0, 1, 2, 4, 4, 9, 40, 2000].map V.int))), (by decide), (by decide), fun v H4 hv st4 => ?_⟩
    obtain ⟨k, hk, rfl⟩ := List.mem_map.mp hv
    have k0 : 0 ≤ k ∧ k ≤ 2000 := by
      simp at hk
      omega
    refine ⟨_, _, rfl, rfl, (by show 2 ≤ sizeLine; decide), fun t ht => ?_⟩
    have st5 : Stp a G (upd H4 t (.tup [.int low, .int (low + k)])) := ((st2.trans st3).trans st4).new ht
    have tp : t ≠ p := fun z => by
      have := ((st2.trans st3).trans st4).k _ _ nap.symm e1
      rw [← z, ht] at this
      cases this
    refine ⟨p, _, _, rfl, rfl, st5.k _ _ nap.symm e1, lt_line (by rw [List.length_map]; omega), ?_⟩
    refine ⟨_, _, Ps ++ [[low, low + k]], rfl, ?_, by simp [lP], fun r hr => ?_, PtsN.push e2 e3 (fun x xs h => st5.rd h sG.s) (SqT.of upd_same) tp⟩
    · exact (sG.trans st5).put hS hp
    · rcases List.mem_append.mp hr with h | h
      · exact hr' r h
      · exact ⟨low, low + k, by simpa using h, by omega, by omega⟩
  · rintro σ G ⟨b, c, Ps, rfl, sG, lP, hr', hP⟩
    obtain ⟨as, g1, g2, g3⟩ := hP.pts
    refine ⟨_, rfl, p, _, rfl, .inl ⟨SqL.of g1, fun t ht => ?_⟩⟩
    exact q t _ Ps (sG.new ht) ⟨as, Sq.upd_sameT, g2, fun i a r e1 e2 => Same.tup (Same.new ht _) (g3 i a r e1 e2)⟩ (by omega) hr'
theorem ok_l_points (T : Txt w K mg) : FnOk P w K mg base CX0 2 T.a_l_points T.d_l_points p_l_points (spPoints K) := by
  have g_l_pick := ok_l_pick (P := P) (w := w) (base := base) T
  refine T.F_l_points.ok sc_l_points (fun vs H Q E h => ?_) (fun cdv A outer s H vs Q E hr h => ?_)
  · obtain ⟨a, q, Rs, rfl, _⟩ := h
    rfl
  obtain ⟨a, q, Rs, rfl, hS, hR, hn, hRg, k⟩ := h
  refine ⟨_, (pss_cons (ps_set (i := 2) sc_l_points.nd rfl (Or.inl rfl) (pe_lst pa_nil))
      (pss_cons (ps_for PassesOwn.never rfl (pi_range1 rfl T.z_range (pa_cons (pe_op op_add pe_int (pe_call g_l_pick (hr.mono (by first | decide | omega)) rfl T.m_l_pick T.F_l_pick.kp T.b_l_pick .nil pass0 (pa_cons (pv 0) (pa_cons (pe_callB (call_max2 rfl) rfl T.z_max bb_max (pa_cons pe_int (pa_cons (pe_op op_add (pe_callB call_len_seq rfl T.z_len PySem.boot_len (pa_cons (pv 1) pa_nil)) pe_int) pa_nil))) pa_nil)))) pa_nil)) (pg_name (i := 3) sc_l_points.nd rfl (Or.inl rfl))
        (pss_one (ps_expr (pe_bm PySem.F.plainAttrs_list PySem.F.slot_list_append PySem.F.type_list_append mt_append (pv 2) (pa_cons (pe_callTy call_tuple_of rfl T.z_tuple bt_tuple (pa_cons (pe_lc (own := [("_law_pair", 4)]) (g := gName 4) (tt := tYes) rfl sc_l_points.nd (pi_tup (pv 1)) (blkOk_by (own := [("_law_pair", 4)]) (N := n_l_points) (sc := defScope s_l_points) (by decide +kernel)) (fun _ _ _ _ _ => (pg_name (i := 4) sc_l_points.nd rfl (Or.inl rfl))) (fun _ _ _ _ _ => pts_nil) (fun _ _ _ _ _ => (pe_op op_add (pe_ix (show IxR _ (rIxT K) from ix_tup) (pv 4) pe_int (fun _ _ => rfl)) (pe_call g_l_pick (hr.mono (by first | decide | omega)) rfl T.m_l_pick T.F_l_pick.kp T.b_l_pick .nil pass0 (pa_cons (pv 0) (pa_cons (pe_op op_add (pe_op op_sub (pe_ix (show IxR _ (rIxT K) from ix_tup) (pv 4) pe_int (fun _ _ => rfl)) (pe_ix (show IxR _ (rIxT K) from ix_tup) (pv 4) pe_int (fun _ _ => rfl))) pe_int) pa_nil)))))) pa_nil)) pa_nil)))))
      (pss_one (ps_ret (pv 2))))), ?_⟩
  obtain ⟨vs, hv, lv, hrow⟩ := hR.row
  refine ⟨(by show 0 ≤ sizeLine; decide), fun p hp => ?_⟩
  have s1 : Stp a H (upd H p (.lst [])) := (Stp.refl hS).new hp
  have nap : a ≠ p := hS.ne hp
  refine ⟨_, rfl, _, rfl, q, _, rfl, .inr (Same.tup (Same.new hp _) hv), _, _, rfl, rfl, _, _, rfl, a, _, rfl, s1.s, ?_, fun r2 H2 st2 r20 r21 => ?_⟩
  · rw [lv]
    split <;> omega
  have r22 : r2 ≤ 20 := by
    rw [lv] at r21
    rcases r21 with h | h
    · split at h <;> omega
    · omega
  have s2 := s1.trans st2
  have hp2 : H2 p = some (.lst []) := st2.k _ _ nap.symm upd_same
  refine ⟨_, _, rfl, rfl, _, rfl, by omega, by omega, for_range (lo := 0) (fun i σ G => ∃ (b c : Option V) (Ps : List (List Int)), σ = [some (.ref a), some (.ref q), some (.ref p), b, c] ∧ Stp a H G ∧ Ps.length = i ∧ (∀ r ∈ Ps, Wi Rs r) ∧ PtsN K G p Ps)
    ⟨none, none, [], rfl, s2, rfl, fun r hr => by simp at hr, [], hp2, rfl, fun i a r e => by simp at e⟩ ?_ ?_⟩
  · rintro i σ G hi ⟨b, c, Ps, rfl, sG, lP, hr', hP⟩
    obtain ⟨as, e1, e2, e3⟩ := hP
    refine ⟨_, rfl, .inl ⟨rfl, _, SqL.of e1⟩, ?_⟩
    refine ⟨_, rfl, q, rfl, ⟨_, sG.rd hv hS⟩, fun D hD => ?_⟩
    refine lc_it (walk_tup (xs := vs)) (LcP (fun F => Stp a G F) (fun j y _ => ∃ v lo hi : Int, y = .int v ∧ Rs[j]? = some [lo, hi] ∧ lo ≤ v ∧ v ≤ hi) D) ⟨(Stp.refl sG.s).new hD, [], upd_same, rfl, fun j y e => by simp at e⟩ (fun _ _ _ PF => (sG.trans PF.1).rd hv hS) ?_ ?_
    · rintro j x F F' hj PF ⟨rfl, ex⟩
      obtain ⟨b', r, rfl, er, hb⟩ := hrow j x ex
      obtain ⟨lo, hi2, rfl, l1, l2⟩ := hRg r (List.mem_of_getElem? er)
      have sF := sG.trans PF.1
      have hb1 := sF.rd hb hS
      refine ⟨rfl, tyes ?_⟩
      refine ⟨_, rfl, b', _, 0, _, rfl, rfl, hb1, rfl, ?_⟩
      refine ⟨_, rfl, _, rfl, b', _, 1, _, rfl, rfl, hb1, rfl, _, rfl, b', _, 0, _, rfl, rfl, hb1, rfl, _, _, rfl, rfl, _, _, rfl, rfl, ?_⟩
      refine ⟨a, _, rfl, sF.s, by omega, fun u F2 st3 u0 u1 => ?_⟩
      refine ⟨_, _, rfl, rfl, ?_⟩
      exact lcp_step PF (fun o e => st3.k _ _ (sG.s.ne hD).symm e) (lt_line (by omega)) (fun o => (PF.1.trans st3).put sG.s hD) (fun _ _ _ h => h) fun _ => ⟨_, lo, hi2, rfl, er, by omega, by omega⟩
    · intro F PF
      obtain ⟨sF, acc, h1, h2, h3⟩ := PF
      obtain ⟨ns, rfl⟩ := ints_of fun j y e => by
        obtain ⟨v, _, _, e, _⟩ := h3 j y e
        exact ⟨v, e⟩
      rw [List.length_map] at h2
      refine ⟨D, _, rfl, .inl ⟨SqL.of h1, fun t ht => ?_⟩⟩
      have tp : t ≠ p := fun z => by
        have := sF.k _ _ nap.symm e1
        rw [← z, ht] at this
        cases this
      refine ⟨p, _, _, rfl, rfl, by rw [upd_ne tp.symm]; exact sF.k _ _ nap.symm e1, lt_line (by rw [List.length_map]; omega), ?_⟩
      refine ⟨_, c, Ps ++ [ns], rfl, ?_, by simp [lP], fun r hr => ?_, PtsN.push e2 e3 (fun x xs h => Same.tup (Same.new ht _) (sF.rd h sG.s)) (SqT.of upd_same) tp⟩
      · exact ((sG.trans sF).new ht).put hS hp
      · rcases List.mem_append.mp hr with h | h
        · exact hr' r h
        · have e : r = ns := by simpa using h
          rw [e]
          refine ⟨by omega, fun k lo hi v ek ev => ?_⟩
          obtain ⟨v', lo', hi', q1, q2, q3, q4⟩ := h3 k (.int v) (map_get ev)
          cases q1
          rw [ek] at q2
          cases q2
          exact ⟨q3, q4⟩
  · rintro σ G ⟨b, c, Ps, rfl, sG, lP, hr', hP⟩
    exact ⟨_, rfl, k p G Ps sG hp hP.pts (fun z => by rw [z] at lP; simp at lP; omega) (by omega) hr'⟩
theorem ok_l_box (T : Txt w K mg) : FnOk P w K mg base CX0 1 T.a_l_box T.d_l_box p_l_box (spBox K) := by
  refine T.F_l_box.ok sc_l_box (fun vs H Q E h => ?_) (fun cdv A outer s H vs Q E hr h => ?_)
  · obtain ⟨p, n, Ps, rfl, _⟩ := h
    rfl
  obtain ⟨p, n, Ps, rfl, hn, hM, hl, hz, hne, q⟩ := h
  refine ⟨_, (pss_cons (ps_if (pt_cmpR (op_eqL0 hr.units0) (pv 0) (pe_lst pa_nil) (nomark _)) (pss_one (ps_ret pe_non)) pss_nil)
      (pss_cons (ps_set (i := 1) sc_l_box.nd rfl (Or.inr rfl) (pe_lc (own := [("_law_point", 2)]) (g := gName 2) (tt := tYes) rfl sc_l_box.nd (pi_list (pv 0)) (blkOk_by (own := [("_law_point", 2)]) (N := n_l_box) (sc := defScope s_l_box) (by decide +kernel)) (fun _ _ _ _ _ => (pg_name (i := 2) sc_l_box.nd rfl (Or.inl rfl))) (fun _ _ _ _ _ => pts_nil) (fun _ _ _ _ _ => (pe_op (show OpR _ _ (rCatT K) from op_catT) (pe_tup (pa_cons pe_int pa_nil)) (pv 2)))))
      (pss_cons (ps_set (i := 3) sc_l_box.nd rfl (Or.inl rfl) (pe_lst pa_nil))
      (pss_cons (ps_for PassesOwn.never rfl (pi_range1 rfl T.z_range (pa_cons (pe_callB call_len_seq rfl T.z_len PySem.boot_len (pa_cons (pe_ix ix_list (pv 1) pe_int (fun _ _ => rfl)) pa_nil)) pa_nil)) (pg_name (i := 4) sc_l_box.nd rfl (Or.inr rfl))
        (pss_one (ps_expr (pe_bm PySem.F.plainAttrs_list PySem.F.slot_list_append PySem.F.type_list_append mt_append (pv 3) (pa_cons (pe_callTy call_tuple_of rfl T.z_tuple bt_tuple (pa_cons (pe_lc (own := [("_law_j", 5)]) (g := gName 5) (tt := tYes) rfl sc_l_box.nd (pi_range1 rfl T.z_range (pa_cons (pe_callB call_len_seq rfl T.z_len PySem.boot_len (pa_cons (pe_ix ix_list (pv 1) pe_int (fun _ _ => rfl)) pa_nil)) pa_nil)) (blkOk_by (own := [("_law_j", 5)]) (N := n_l_box) (sc := defScope s_l_box) (by decide +kernel)) (fun _ _ _ _ _ => (pg_name (i := 5) sc_l_box.nd rfl (Or.inr rfl))) (fun _ _ _ _ _ => pts_nil) (fun _ _ _ _ _ => (pe_callB (show CallR _ _ (rMax K) from (cr_max rfl)) rfl T.z_max bb_max (pa_cons (pe_lc (own := [("_law_point", 2)]) (g := gName 2) (tt := tYes) rfl sc_l_box.nd (show PI _ _ _ (iList K _) from (pi_list (pv 1))) (blkOk_by (own := [("_law_point", 2)]) (N := n_l_box) (sc := relS _ (defScope s_l_box)) (by decide +kernel)) (fun _ _ _ _ _ => (pg_name (i := 2) sc_l_box.nd rfl (Or.inl rfl))) (fun _ _ _ _ _ => pts_nil) (fun _ _ _ _ _ => (pe_op op_sub (pe_ix (show IxR _ (rIxT K) from ix_tup) (pv 2) (pv 4) (fun _ _ => rfl)) (pe_ix (show IxR _ (rIxT K) from ix_tup) (pv 2) (pv 5) (fun _ _ => rfl))))) pa_nil)))) pa_nil)) pa_nil)))))
      (pss_one (ps_ret (pe_callTy call_tuple_of rfl T.z_tuple bt_tuple (pa_cons (pv 3) pa_nil)))))))), ?_⟩
  obtain ⟨vs, hv, lv, hrow⟩ := hM.row
  refine ⟨_, rfl, (by show 0 ≤ sizeLine; decide), fun e he => ?_⟩
  have s0 : Same H (upd H e (.lst [])) := Same.new he _
  have nev : vs ≠ [] := fun z => by
    subst z
    exact hne (List.length_eq_zero_iff.mp (by simpa using lv.symm))
  refine ⟨p, e, vs, rfl, rfl, s0.seq hv, SqL.of upd_same, _, rfl, ifF (by cases vs with
    | nil => exact absurd rfl nev
    | cons _ _ => rfl) ?_⟩
  refine ⟨_, rfl, p, rfl, ⟨vs, s0.seq hv⟩, fun D hD => ?_⟩
  refine lc_it (walk_list (xs := vs)) (LcP (Same (upd H e (.lst []))) (RTup K (Ps.map (0 :: ·)) D) D) (lcp_start hD) (fun _ F _ P => P.1.seq (s0.seq hv)) ?_ ?_
  · rintro i x F F' hi P ⟨rfl, ex⟩
    obtain ⟨a, r, rfl, er, ha⟩ := hrow i x ex
    have lr := hl r (List.mem_of_getElem? er)
    have ha1 := Sq.same (s0.trans P.1) ha
    refine ⟨rfl, tyes ?_⟩
    refine ⟨(by show 1 ≤ sizeLine; decide), fun t1 ht1 => ?_⟩
    refine ⟨_, rfl, cat0 (SqT.of upd_same) (Same.tup (Same.new ht1 _) ha1) (by omega) fun z1 Fa sa hz1 => ?_⟩
    obtain ⟨acc, q1, _⟩ := P.acc
    have sa2 := (Same.new ht1 (.tup [.int 0])).trans sa
    exact lcp_same P hD sa2 (lt_line (by omega)) RTup.mono ⟨z1, _, rfl, map_get er, fun F' bu => sqT_but bu (sa2 _ _ q1) hz1⟩
  · intro G P
    have mF : Mx false true K G D (Ps.map (0 :: ·)) := by
      obtain ⟨sG, acc, q1, q2, q3⟩ := P
      exact Mx.of (SqL.of q1) (by rw [q2, List.length_map, lv]) fun j y e => by
        obtain ⟨a, r, e1, e2, e3⟩ := q3 j y e
        exact ⟨a, r, e1, e2, e3 _ (But.of_same (Same.refl _))⟩
    have s1 := s0.trans P.1
    obtain ⟨fs, hf, lf, frow⟩ := mF.row
    rw [List.length_map] at lf
    have rows : ∀ (k : Nat) (x : V), fs[k]? = some x → ∃ (a : Addr) (r : List Int), x = .ref a ∧ Ps[k]? = some r ∧ r.length = n ∧ SqT K G a ((0 :: r).map V.int) := fun k x e => by
      obtain ⟨a, r, e1, e2, e3⟩ := frow k x e
      rw [List.getElem?_map] at e2
      cases e4 : Ps[k]? with
      | none => rw [e4] at e2; cases e2
      | some r0 =>
        rw [e4] at e2
        cases e2
        exact ⟨a, r0, e1, rfl, hl r0 (List.mem_of_getElem? e4), e3⟩
    have pos : 0 < fs.length := by
      rw [lf]
      exact List.length_pos_iff.mpr hne
    have f0 : fs[0]? = some fs[0] := List.getElem?_eq_getElem pos
    obtain ⟨a0, r0, x0, _, l0, h0⟩ := rows 0 _ f0
    rw [x0] at f0
    have len0 : ((0 :: r0).map V.int).length = n + 1 := by rw [List.length_map, List.length_cons, l0]
    refine ⟨(by show 0 ≤ sizeLine; decide), fun pr hpr => ?_⟩
    refine ⟨_, rfl, D, _, 0, _, rfl, rfl, (Same.new hpr _).seq hf, atI_nat (j := 0) f0, a0, _, rfl, .inr (Same.tup (Same.new hpr _) h0), _, rfl, by omega, by rw [len0]; omega, for_range (lo := 0) (fun i σ F => (∃ b c : Option V, σ = [some (.ref p), some (.ref D), none, some (.ref pr), b, c]) ∧ LcP (Same G) (RRow K true (hullM n Ps) pr) pr i F)
      ⟨⟨none, none, rfl⟩, lcp_start hpr⟩ ?_ ?_⟩
    · rintro i σ F hi ⟨⟨b, c, rfl⟩, PF⟩
      rw [len0] at hi
      obtain ⟨acc, a1, a2⟩ := PF.acc
      refine ⟨_, rfl, .inl ⟨rfl, _, SqL.of a1⟩, ?_⟩
      refine ⟨_, rfl, D, _, 0, _, rfl, rfl, PF.1.seq hf, atI_nat (j := 0) f0, a0, _, rfl, .inr (Same.tup PF.1 h0), _, rfl, by omega, by rw [len0]; omega, fun D2 hD2 => ?_⟩
      refine lc_it walk_range (LcP (Same F) (RInt ((List.range (n + 1)).map fun j => lmax (Ps.map (dif i j)))) D2) (lcp_start hD2) (fun _ _ _ _ => trivial) ?_ ?_
      · rintro j x F1 F2 hj P1 ⟨rfl, rfl⟩
        rw [len0] at hj
        have sF := PF.1.trans P1.1
        refine ⟨rfl, tyes ?_⟩
        refine ⟨_, rfl, D, rfl, ⟨fs, sF.seq hf⟩, fun D3 hD3 => ?_⟩
        refine lc_it (walk_list (xs := fs)) (LcP (Same F2) (RInt (Ps.map (dif i j))) D3) (lcp_start hD3) (fun _ F3 _ P3 => (sF.trans P3.1).seq hf) ?_ ?_
        · rintro k x F3 F4 hk P3 ⟨rfl, ex⟩
          obtain ⟨a, r, rfl, er, lr, ha⟩ := rows k x ex
          have ha1 := Same.tup (sF.trans P3.1) ha
          refine ⟨rfl, tyes ?_⟩
          refine ⟨_, rfl, _, rfl, a, _, _, _, rfl, rfl, ha1, atI_row (by simp; omega), _, rfl, _, rfl, a, _, _, _, rfl, rfl, ha1, atI_row (by simp; omega), _, _, rfl, rfl, ?_⟩
          exact lcp_same P3 hD3 (Same.refl _) (lt_line (by omega)) RInt.mono ⟨dif i j r, map_get er, rfl⟩
        · intro F3 P3
          refine ⟨D3, _, rfl, SqL.of (lcp_ints (K := K) P3 (by rw [List.length_map]; exact lf)), List.length_pos_iff.mpr (fun z => hne (List.map_eq_nil_iff.mp z)), fun m hm hx => ?_⟩
          exact lcp_same P1 hD2 P3.1 (lt_line (by omega)) RInt.mono ⟨m, by rw [lmax_eq hm hx]; exact map_get (range_get (by omega)), rfl⟩
      · intro F1 P1
        have ei := lcp_ints (K := K) P1 (by rw [len0]; simp)
        refine ⟨D2, _, rfl, .inl ⟨SqL.of ei, fun t ht => ?_⟩⟩
        have sF := P1.1.trans (Same.new ht (.tup (((List.range (n + 1)).map fun j => lmax (Ps.map (dif i j))).map V.int)))
        have tn : t ≠ pr := fun z => by
          have := P1.1 _ _ a1
          rw [← z, ht] at this
          cases this
        refine ⟨pr, acc, _, rfl, rfl, sF _ _ a1, lt_line (by omega), ⟨_, _, rfl⟩, ?_⟩
        exact lcp_put PF a1 hpr sF (lt_line (by omega)) RRow.mono ⟨t, _, rfl, map_get (range_get (by omega)), tn, Sq.upd_sameT⟩
    · rintro σ F ⟨⟨b, c, rfl⟩, PF⟩
      obtain ⟨as, h1, h2, h3⟩ := lcp_rows PF (by rw [len0]; simp [hullM])
      refine ⟨_, rfl, pr, _, rfl, .inl ⟨h1, fun l hl => ?_⟩⟩
      refine q (.ref l) _ ((s1.trans PF.1).trans (Same.new hl _)) ?_
      unfold hull
      rw [if_neg hne]
      exact ⟨l, rfl, as, Sq.upd_sameT, h2, fun i a r e1 e2 => Sq.same (Same.new hl _) (h3 i a r e1 e2)⟩
end
/-! ### a tuple against the empty one -/
def rNeT0 (K : PySem.W.Frag) : R2 := fun x y H Q => ∃ (a b : Addr) (xs : List V), x = .ref a ∧ y = .ref b ∧ SqT K H a xs ∧ SqT K H b [] ∧ Q (.bl (!xs.isEmpty)) H
theorem op_neT0 {X : Cx} (hu : X.A.units < cLine) : OpR X (compareOp .NotEq) (rNeT0 X.K) := by
  intro pins s σ H x y v u Q I rx ry h
  obtain ⟨a, b, xs, rfl, rfl, ha, hb, q⟩ := h
  obtain rfl : v = Value.ref a := rx
  obtain rfl : u = Value.ref b := ry
  obtain ⟨its, r1, t1, _⟩ := I.tuple ha
  obtain ⟨its2, r2, t2, _⟩ := I.tuple hb
  cases r2
  refine SeqAt.RcNeAt.tuples (e := fun _ => true) t1 t2 hu (fun j h1 h2 => absurd h2 (by simp)) _ _ _ _ ?_
  refine ⟨.bl (!xs.isEmpty), H, I, ?_, q⟩
  have e : xs.isEmpty = its.isEmpty := by cases r1 <;> rfl
  rw [e]
  cases its <;> rfl
/-! ### drawn landmarks -/
theorem bb_sorted : bootBuiltins "sorted" = some (.builtin "sorted") := by decide +kernel
def spMarks (K : PySem.W.Frag) : Sp := fun vs H Q _ => ∃ (a q pb b0 b1 : Addr) (M0 M1 Rs : List (List Int)) (n : Nat), vs = [.ref a, .ref q, .ref pb] ∧ Src H a ∧ pb ≠ a ∧ Mx true true K H q Rs ∧ (∀ r ∈ Rs, r.length = 2) ∧ Rs.length ≤ 100 ∧ H pb = some (.lst [.ref b0, .ref b1]) ∧
  Mx true true K H b0 M0 ∧ Mx true true K H b1 M1 ∧ Sz n M0 ∧ Sz n M1 ∧ 1 ≤ n ∧ n ≤ 900 ∧ ∀ (t : Addr) (H' : Hp) (ms : List Int), Stp a H H' → SqT K H' t (ms.map V.int) → ms.Pairwise (· < ·) → ms.length ≤ 12 → Q (.ref t) H'
section
variable {P : Program} {w : World} {K : PySem.W.Frag} {mg : Str → Option Value} {base : Heap}
theorem ok_l_marks (T : Txt w K mg) : FnOk P w K mg base CX0 3 T.a_l_marks T.d_l_marks p_l_marks (spMarks K) := by
  have g_l_pick := ok_l_pick (P := P) (w := w) (base := base) T
  have g_l_far := ok_l_far (P := P) (w := w) (base := base) T
  have g_l_one := ok_l_oneG (P := P) (w := w) (K := K) (base := base) T
  refine T.F_l_marks.ok sc_l_marks (fun vs H Q E h => ?_) (fun cdv A outer s H vs Q E hr h => ?_)
  · obtain ⟨a, q, pb, b0, b1, M0, M1, Rs, n, rfl, _⟩ := h
    rfl
  obtain ⟨a, q, pb, b0, b1, M0, M1, Rs, n, rfl, hS, npb, hR, hR2, hRn, hpb, m0, m1, z0, z1, n1, n9, k⟩ := h
  refine ⟨_, (pss_cons (ps_set (i := 3) sc_l_marks.nd rfl (Or.inl rfl) (pe_lst pa_nil))
      (C8.pss_cut (ps_if (pt_cmpR op_eq (pe_call g_l_pick (hr.mono (by first | decide | omega)) rfl T.m_l_pick T.F_l_pick.kp T.b_l_pick .nil pass0 (pa_cons (pv 0) (pa_cons pe_int pa_nil))) pe_int (nomark _)) (pss_one (ps_set (i := 3) sc_l_marks.nd rfl (Or.inl rfl) (pe_lst (pa_cons (pe_un un_neg pe_int) (pa_cons pe_int (pa_cons pe_int pa_nil)))))) pss_nil)
      (pss_cons (ps_for PassesOwn.never rfl (pi_range1 rfl T.z_range (pa_cons (pe_call g_l_pick (hr.mono (by first | decide | omega)) rfl T.m_l_pick T.F_l_pick.kp T.b_l_pick .nil pass0 (pa_cons (pv 0) (pa_cons pe_int pa_nil))) pa_nil)) (pg_name (i := 4) sc_l_marks.nd rfl (Or.inl rfl))
        (pss_cons (ps_set (i := 5) sc_l_marks.nd rfl (Or.inl rfl) (pe_call g_l_pick (hr.mono (by first | decide | omega)) rfl T.m_l_pick T.F_l_pick.kp T.b_l_pick .nil pass0 (pa_cons (pv 0) (pa_cons pe_int pa_nil))))
      (pss_cons (ps_set (i := 6) sc_l_marks.nd rfl (Or.inl rfl) (pe_call g_l_far (hr.mono (by first | decide | omega)) rfl T.m_l_far T.F_l_far.kp T.b_l_far .nil pass0 (pa_cons (pv 0) pa_nil)))
      (C8.pss_cut (ps_if (pt_cmpR op_gt (pv 5) pe_int (nomark _)) (pss_one (ps_set (i := 6) sc_l_marks.nd rfl (Or.inl rfl) (pe_call g_l_one (hr.mono (by first | decide | omega)) rfl T.m_l_one T.F_l_one.kp T.b_l_one .nil pass0 (pa_cons (pv 0) (pa_cons (pe_call g_l_one (hr.mono (by first | decide | omega)) rfl T.m_l_one T.F_l_one.kp T.b_l_one .nil pass0 (pa_cons (pv 0) (pa_cons (pe_call g_l_one (hr.mono (by first | decide | omega)) rfl T.m_l_one T.F_l_one.kp T.b_l_one .nil pass0 (pa_cons (pv 0) (pa_cons (pv 2) pa_nil))) pa_nil))) pa_nil))))) (pss_one (ps_if (PW.pt (pw_and (pt_cmpR op_eq (pv 5) pe_int (nomark _)) (pw_and1 (pt_cmpR (op_neT0 hr.units0) (pv 1) (pe_tup pa_nil) (nomark _))))) (pss_one (ps_set (i := 6) sc_l_marks.nd rfl (Or.inl rfl) (pe_call g_l_one (hr.mono (by first | decide | omega)) rfl T.m_l_one T.F_l_one.kp T.b_l_one .nil pass0 (pa_cons (pv 0) (pa_cons (pe_call g_l_one (hr.mono (by first | decide | omega)) rfl T.m_l_one T.F_l_one.kp T.b_l_one .nil pass0 (pa_cons (pv 0) (pa_cons (pv 1) pa_nil))) pa_nil))))) pss_nil)))
      (pss_one (ps_expr (pe_bm PySem.F.plainAttrs_list PySem.F.slot_list_append PySem.F.type_list_append mt_append (pv 3) (pa_cons (pe_op op_add (pv 6) (pe_call g_l_one (hr.mono (by first | decide | omega)) rfl T.m_l_one T.F_l_one.kp T.b_l_one .nil pass0 (pa_cons (pv 0) (pa_cons (pe_lst (pa_cons (pe_un un_neg pe_int) (pa_cons (pe_un un_neg pe_int) (pa_cons pe_int (pa_cons pe_int (pa_cons pe_int (pa_cons pe_int pa_nil))))))) pa_nil)))) pa_nil))))))))
      (pss_one (ps_ret (pe_callTy call_tuple_of rfl T.z_tuple bt_tuple (pa_cons (pe_callB (cr_sortedSet rfl) rfl T.z_sorted bb_sorted (pa_cons (pe_callTy (SetL.cr_setL rfl) rfl T.z_set PyProof.Rows.boot_set (pa_cons (pv 3) pa_nil)) pa_nil)) pa_nil))))))), ?_⟩
  refine ⟨(by show 0 ≤ sizeLine; decide), fun l0 hl0 => ?_⟩
  have s0 : Stp a H (upd H l0 (.lst [])) := (Stp.refl hS).new hl0
  refine ⟨fun σ G => ∃ (l : Addr) (ns : List Int), σ = [some (.ref a), some (.ref q), some (.ref pb), some (.ref l), none, none, none] ∧ Stp a H G ∧ H l = none ∧ G l = some (.lst (ns.map V.int)) ∧ ns.length ≤ 3, ?_, ?_⟩
  · refine ⟨_, rfl, a, 2, rfl, s0.s, by decide, fun r H1 st r0 r1 => ⟨rfl, _, rfl, ite2 (fun _ => ?_) (fun _ => ?_)⟩⟩
    · refine ⟨_, rfl, (by show 3 ≤ sizeLine; decide), fun l hl => ?_⟩
      exact ⟨l, [-1, 0, 1], rfl, (s0.trans st).new hl, (s0.trans st).free hl, upd_same, by decide⟩
    · exact ⟨l0, [], rfl, s0.trans st, hl0, st.k _ _ (hS.ne hl0).symm upd_same, by decide⟩
  rintro σ G ⟨l, ns, rfl, sG, hl, eG, nl⟩
  have nal : l ≠ a := (hS.ne hl).symm
  refine ⟨_, rfl, a, 10, rfl, sG.s, by decide, fun r H2 st2 r0 r1 => ?_⟩
  refine ⟨_, rfl, by omega, by omega, for_range (lo := 0) (fun i σ G => ∃ (ns : List Int) (x y z : Option V), σ = [some (.ref a), some (.ref q), some (.ref pb), some (.ref l), x, y, z] ∧ Stp a H G ∧ G l = some (.lst (ns.map V.int)) ∧ ns.length ≤ 3 + i)
    ⟨ns, none, none, none, rfl, sG.trans st2, st2.k _ _ nal eG, by omega⟩ ?_ ?_⟩
  · rintro i σ G hi ⟨ns, x, y, z, rfl, sG, eG, nn⟩
    refine ⟨_, rfl, a, 6, rfl, sG.s, by decide, fun c H3 st3 c0 c1 => ?_⟩
    refine ⟨_, rfl, a, rfl, (sG.trans st3).s, fun nr H4 st4 => ?_⟩
    have s4 := (sG.trans st3).trans st4
    have e4 := st4.k _ _ nal (st3.k _ _ nal eG)
    refine ⟨fun σ F => ∃ nr : Int, σ = [some (.ref a), some (.ref q), some (.ref pb), some (.ref l), some (.int (0 + (i : Int))), some (.int c), some (.int nr)] ∧ Stp a H F ∧ F l = some (.lst (ns.map V.int)), ?_, ?_⟩
    · refine ⟨_, rfl, _, _, rfl, rfl, _, rfl, ite2 (fun _ => ?_) (fun _ => ?_)⟩
      · refine ⟨_, rfl, _, rfl, _, rfl, _, rfl, a, pb, [.ref b0, .ref b1], false, rfl, s4.s, fun _ => npb, SqL.of (s4.k _ _ npb hpb), (by show 0 < 2; omega), (by show 2 < 1000; omega), fun v H5 hv st5 => ?_⟩
        obtain ⟨b, M, rfl, hb, zb⟩ : ∃ (b : Addr) (M : List (List Int)), v = .ref b ∧ Mx true true K H b M ∧ Sz n M := by
          rcases List.mem_cons.mp hv with rfl | hv
          · exact ⟨b0, M0, rfl, m0, z0⟩
          · rw [List.mem_singleton.mp hv]
            exact ⟨b1, M1, rfl, m1, z1⟩
        obtain ⟨as, h1, h2, h3⟩ := hb
        have s5 := s4.trans st5
        refine ⟨a, b, as.map V.ref, true, rfl, s5.s, (fun z => nomatch z), s5.rd h1 hS, by rw [List.length_map, h2, zb.1]; omega, by rw [List.length_map, h2, zb.1]; omega, fun v H6 hv st6 => ?_⟩
        obtain ⟨a', ha', rfl⟩ := List.mem_map.mp hv
        obtain ⟨j, hj, ej⟩ := List.getElem_of_mem ha'
        have ea : as[j]? = some a' := by rw [List.getElem?_eq_getElem hj, ej]
        have er : M[j]? = some (M[j]'(by omega)) := List.getElem?_eq_getElem _
        have lr := zb.get er
        have h4 := h3 j a' _ ea er
        have s6 := s5.trans st6
        refine ⟨a, a', _, true, rfl, s6.s, (fun z => nomatch z), s6.rd h4 hS, by rw [List.length_map, lr]; omega, by rw [List.length_map, lr]; omega, fun v H7 hv st7 => ?_⟩
        obtain ⟨u, _, rfl⟩ := List.mem_map.mp hv
        exact ⟨u, rfl, s6.trans st7, st7.k _ _ nal (st6.k _ _ nal (st5.k _ _ nal e4))⟩
      · obtain ⟨ra, r1', r2', r3'⟩ := hR
        refine ⟨_, rfl, rfl, _, rfl, ite2 (fun _ => ?_) (fun _ => ifF rfl ⟨nr, rfl, s4, e4⟩)⟩
        refine ⟨_, rfl, (by show 0 ≤ sizeLine; decide), fun e he => ?_⟩
        have s5 := s4.new he (o := .tup [])
        have e5 := (Same.new he (.tup [])) _ _ e4
        refine ⟨q, e, ra.map V.ref, rfl, rfl, s5.rd r1' hS, SqT.of upd_same, _, rfl, ite2 (fun hne => ?_) (fun _ => ⟨nr, rfl, s5, e5⟩)⟩
        have pos : 0 < (ra.map V.ref).length := by
          cases ra with
          | nil => cases hne
          | cons _ _ => simp
        refine ⟨_, rfl, _, rfl, _, rfl, a, q, ra.map V.ref, true, rfl, s5.s, (fun z => nomatch z), s5.rd r1' hS, pos, by rw [List.length_map, r2']; omega, fun v H6 hv st6 => ?_⟩
        obtain ⟨a', ha', rfl⟩ := List.mem_map.mp hv
        obtain ⟨j, hj, ej⟩ := List.getElem_of_mem ha'
        have ea : ra[j]? = some a' := by rw [List.getElem?_eq_getElem hj, ej]
        have er : Rs[j]? = some (Rs[j]'(by omega)) := List.getElem?_eq_getElem _
        have lr := hR2 _ (List.mem_of_getElem? er)
        have h4 := r3' j a' _ ea er
        have s6 := s5.trans st6
        refine ⟨a, a', _, true, rfl, s6.s, (fun z => nomatch z), s6.rd h4 hS, by rw [List.length_map, lr]; omega, by rw [List.length_map, lr]; omega, fun v H7 hv st7 => ?_⟩
        obtain ⟨u, _, rfl⟩ := List.mem_map.mp hv
        exact ⟨u, rfl, s6.trans st7, st7.k _ _ nal (st6.k _ _ nal e5)⟩
    · rintro σ F ⟨nr, rfl, sF, eF⟩
      refine ⟨_, rfl, .inl ⟨rfl, _, SqL.of eF⟩, ?_⟩
      refine ⟨_, rfl, _, rfl, 2, rfl, 1, rfl, (by show 6 ≤ sizeLine; decide), fun l2 hl2 => ?_⟩
      have nl2 : l2 ≠ a := (sF.s.ne hl2).symm
      have st3 : Stp a F (upd F l2 (.lst ([-2, -1, 0, 0, 1, 2].map V.int))) := (Stp.refl sF.s).new hl2
      refine ⟨a, l2, _, false, rfl, st3.s, fun _ => nl2, SqL.of (upd_same (o := .lst ([-2, -1, 0, 0, 1, 2].map V.int))), (by decide), (by decide), fun v H4 hv st4 => ?_⟩
      obtain ⟨u, _, rfl⟩ := List.mem_map.mp hv
      have eL := (st3.trans st4).k _ _ nal eF
      refine ⟨_, _, rfl, rfl, l, _, _, rfl, rfl, eL, lt_line (by rw [List.length_map]; omega), ?_⟩
      refine ⟨ns ++ [nr + u], _, _, _, rfl, ((sF.trans st3).trans st4).put hS hl, by rw [upd_same, List.map_append]; rfl, by simp; omega⟩
  · rintro σ G ⟨ns, x, y, z, rfl, sG, eG, nn⟩
    have n12 : ns.length ≤ 12 := by omega
    refine ⟨_, rfl, l, ns, rfl, SqL.of eG, by omega, fun p c hp hc => ?_⟩
    refine ⟨p, _, c, rfl, upd_same, by omega, fun os p2 o1 o2 o3 hp2 => ?_⟩
    refine ⟨p2, _, rfl, .inl ⟨SqL.of upd_same, fun t ht => ?_⟩⟩
    exact k t _ os (((sG.new hp).new hp2).new ht) (SqT.of upd_same) o1 (by omega)
end
/-! ### rounding twice, and rounding the smaller one -/
section
variable {n : Nat} {ms : List Int} {Rs : List (List Int)} {M N : List (List Int)}
theorem rndM_ge (d : ∀ i < n, getM M i i = 0) (h : LeF n (getM M) (wid Rs)) : LeF n (getM M) (rndM ms Rs (getM M)) := fun i hi j hj => by
  unfold rndM
  split
  · rename_i e
    subst e
    rw [d i hi]
    exact Int.le_refl _
  · exact rnd_ge (h i hi j hj)
theorem rndM_wid : LeF n (rndM ms Rs (getM M)) (wid Rs) := fun i hi j hj => by
  unfold rndM
  split
  · rename_i e
    unfold wid
    rw [if_pos e]
    exact Int.le_refl _
  · exact rnd_le
theorem rndM_mono (h : LeF n (getM M) (getM N)) : LeF n (rndM ms Rs (getM M)) (rndM ms Rs (getM N)) := fun i hi j hj => by
  unfold rndM
  split
  · exact Int.le_refl _
  · exact rnd_mono (h i hi j hj)
theorem rndM_idem (h : LeF n (getM N) (rndM ms Rs (getM M))) : LeF n (rndM ms Rs (getM N)) (rndM ms Rs (getM M)) := fun i hi j hj => by
  have a := h i hi j hj
  unfold rndM at a ⊢
  split
  · exact Int.le_refl _
  · rename_i e
    rw [if_neg e] at a
    have b := rnd_mono (ms := ms) (w := wid Rs i j) a
    rw [rnd_idem] at b
    exact b
/-- what is known of a box and its rounded one -/
theorem best_some {D : Nat → Nat → Int} {B : Option (List (List Int))} {C : Nat → Nat → Int} (b : Best n D B) (c : Clo n C) (l : LeF n C D) : ∃ N, B = some N := by
  cases B with
  | none => exact absurd l (b C c)
  | some N => exact ⟨N, rfl⟩
theorem best_again (b : Best n (rndM ms Rs (getM M)) (some N)) : Best n (rndM ms Rs (getM N)) (some N) :=
  ⟨b.1, b.2.1, rndM_ge b.2.1.d (b.2.2.1.trans rndM_wid), fun C c l => b.2.2.2 C c (l.trans (rndM_idem b.2.2.1))⟩
end
theorem mx_but {K : PySem.W.Frag} {D p : Addr} {H H' : Hp} {acc : List V} {M : List (List Int)} (b : But D H H') (hD : H D = some (.lst acc)) (h : Mx true true K H p M) : Mx true true K H' p M := by
  obtain ⟨as, h1, h2, h3⟩ := h
  exact ⟨as, sqT_but b hD h1, h2, fun i a r e1 e2 => sqT_but b hD (h3 i a r e1 e2)⟩
def two (M0 M1 : List (List Int)) (j : Nat) : List (List Int) := if j = 0 then M0 else M1
def spRight (K : PySem.W.Frag) : Sp := fun vs H Q _ => ∃ (a pb q p b0 b1 : Addr) (M0 M1 Rs : List (List Int)) (ms : List Int), vs = [.ref pb, .ref q, .ref p] ∧ Src H a ∧ H pb = some (.lst [.ref b0, .ref b1]) ∧ Mx true true K H b0 M0 ∧ Mx true true K H b1 M1 ∧
  Sz (Rs.length + 1) M0 ∧ Sz (Rs.length + 1) M1 ∧ Clo (Rs.length + 1) (getM M0) ∧ Clo (Rs.length + 1) (getM M1) ∧ LeF (Rs.length + 1) (getM M0) (getM M1) ∧ LeF (Rs.length + 1) (getM M1) (wid Rs) ∧
  Mx true true K H q Rs ∧ (∀ r ∈ Rs, r.length = 2) ∧ Rs.length ≤ 100 ∧ SqT K H p (ms.map V.int) ∧ ms.Pairwise (· < ·) ∧ ms.length ≤ 100 ∧ ∀ H', Same H H' → Q (.bl true) H'
section
variable {P : Program} {w : World} {K : PySem.W.Frag} {mg : Str → Option Value} {base : Heap}
theorem ok_l_right (T : Txt w K mg) : FnOk P w K mg base CX0 4 T.a_l_right T.d_l_right p_l_right (spRight K) := by
  have g_round_box := ok_round_box (P := P) (w := w) (K := K) (base := base) T
  have g_l_due := ok_l_due (P := P) (w := w) (K := K) (base := base) T
  have g_l_below := ok_l_below (P := P) (w := w) (K := K) (base := base) T
  have g_l_widest := ok_l_widest (P := P) (w := w) (K := K) (base := base) T
  have g_l_same := ok_l_same (P := P) (w := w) (K := K) (base := base) T 3
  refine T.F_l_right.ok sc_l_right (fun vs H Q E h => ?_) (fun cdv A outer s H vs Q E hr h => ?_)
  · obtain ⟨a, pb, q, p, b0, b1, M0, M1, Rs, ms, rfl, _⟩ := h
    rfl
  obtain ⟨a, pb, q, p, b0, b1, M0, M1, Rs, ms, rfl, hS, hpb, m0, m1, z0, z1, c0, c1, l01, l1w, hR, hR2, hRn, hp, hs, hn, k⟩ := h
  have l0w := l01.trans l1w
  refine ⟨_, (pss_cons (ps_set (i := 3) sc_l_right.nd rfl (Or.inl rfl) (pe_lst pa_nil))
      (pss_cons (ps_for PassesOwn.never rfl (pi_list (pv 0)) (pg_name (i := 4) sc_l_right.nd rfl (Or.inl rfl))
        (pss_cons (ps_set (i := 5) sc_l_right.nd rfl (Or.inl rfl) (pe_call g_round_box (hr.mono (by first | decide | omega)) rfl T.m_round_box T.F_round_box.kp T.b_round_box .nil pass0 (pa_cons (pv 4) (pa_cons (pv 1) (pa_cons (pv 2) pa_nil)))))
      (pss_cons (ps_if (pt_not (pt_val (pe_call g_l_same (hr.mono (by first | decide | omega)) rfl T.m_l_same T.F_l_same.kp T.b_l_same .nil pass0 (pa_cons (pv 5) (pa_cons (pe_call g_l_due (hr.mono (by first | decide | omega)) rfl T.m_l_due T.F_l_due.kp T.b_l_due .nil pass0 (pa_cons (pv 4) (pa_cons (pv 1) (pa_cons (pv 2) pa_nil)))) pa_nil))))) (pss_one (ps_ret pe_bl)) pss_nil)
      (pss_cons (ps_if (PW.pt (pw_or (pt_not (pt_val (pe_call g_l_below (hr.mono (by first | decide | omega)) rfl T.m_l_below T.F_l_below.kp T.b_l_below .nil pass0 (pa_cons (pv 4) (pa_cons (pv 5) pa_nil))))) (pw_or1 (pt_not (pt_val (pe_call g_l_below (hr.mono (by first | decide | omega)) rfl T.m_l_below T.F_l_below.kp T.b_l_below .nil pass0 (pa_cons (pv 5) (pa_cons (pe_call g_l_widest (hr.mono (by first | decide | omega)) rfl T.m_l_widest T.F_l_widest.kp T.b_l_widest .nil pass0 (pa_cons (pv 1) pa_nil)) pa_nil)))))))) (pss_one (ps_ret pe_bl)) pss_nil)
      (pss_cons (ps_if (pt_not (pt_val (pe_call g_l_same (hr.mono (by first | decide | omega)) rfl T.m_l_same T.F_l_same.kp T.b_l_same .nil pass0 (pa_cons (pe_call g_round_box (hr.mono (by first | decide | omega)) rfl T.m_round_box T.F_round_box.kp T.b_round_box .nil pass0 (pa_cons (pv 5) (pa_cons (pv 1) (pa_cons (pv 2) pa_nil)))) (pa_cons (pv 5) pa_nil))))) (pss_one (ps_ret pe_bl)) pss_nil)
      (pss_one (ps_expr (pe_bm PySem.F.plainAttrs_list PySem.F.slot_list_append PySem.F.type_list_append mt_append (pv 3) (pa_cons (pv 5) pa_nil)))))))))
      (pss_one (ps_ret (pe_and (pe_call g_l_below (hr.mono (by first | decide | omega)) rfl T.m_l_below T.F_l_below.kp T.b_l_below .nil pass0 (pa_cons (pe_ix ix_list (pv 3) pe_int (fun _ _ => rfl)) (pa_cons (pe_ix ix_list (pv 3) pe_int (fun _ _ => rfl)) pa_nil))) (pe_one (pe_cmpR op_isN (pe_call g_round_box (hr.mono (by first | decide | omega)) rfl T.m_round_box T.F_round_box.kp T.b_round_box .nil pass0 (pa_cons pe_non (pa_cons (pv 1) (pa_cons (pv 2) pa_nil)))) pe_non (nomark _)))))))), ?_⟩
  refine ⟨(by show 0 ≤ sizeLine; decide), fun l hl => ?_⟩
  have put : ∀ {G : Hp} {o : HO}, Same H G → Same H (upd G l o) := fun {G o} s b u e => by
    have ne : b ≠ l := fun z => by rw [z, hl] at e; cases e
    rw [upd_ne ne]
    exact s _ _ e
  have s0 : Same H (upd H l (.lst [])) := Same.new hl _
  refine ⟨_, rfl, pb, rfl, ⟨_, SqL.of (s0 _ _ hpb)⟩, for_list (K := K) (a := pb) (xs := [.ref b0, .ref b1]) (fun i σ G => ∃ (us : List V) (x y : Option V), σ = [some (.ref pb), some (.ref q), some (.ref p), some (.ref l), x, y] ∧ Same H G ∧ G l = some (.lst us) ∧ us.length = i ∧ ∀ (j : Nat) (v : V), us[j]? = some v → ∃ (c : Addr) (N : List (List Int)), v = .ref c ∧ Mx true true K G c N ∧ Best (Rs.length + 1) (rndM ms Rs (getM (two M0 M1 j))) (some N))
    ⟨[], none, none, rfl, s0, upd_same, rfl, fun j v e => by simp at e⟩ (fun i σ G _ ⟨_, _, _, _, h, _⟩ => SqL.of (h _ _ hpb)) ?_ ?_⟩
  · rintro i v σ G hi ⟨us, x, y, rfl, sG, eG, lu, hu⟩
    obtain ⟨b, rfl, mb, zb, cb, lw⟩ : ∃ b, v = .ref b ∧ Mx true true K H b (two M0 M1 i) ∧ Sz (Rs.length + 1) (two M0 M1 i) ∧ Clo (Rs.length + 1) (getM (two M0 M1 i)) ∧ LeF (Rs.length + 1) (getM (two M0 M1 i)) (wid Rs) := by
      match i, hi with
      | 0, hi => exact ⟨b0, (Option.some.inj hi).symm, m0, z0, c0, l0w⟩
      | 1, hi => exact ⟨b1, (Option.some.inj hi).symm, m1, z1, c1, l1w⟩
    have i2 : i < 2 := (List.getElem?_eq_some_iff.mp hi).1
    generalize eM : two M0 M1 i = M at mb zb cb lw
    have lr := rndM_ge (ms := ms) cb.d lw
    refine ⟨_, rfl, _, rfl, _, rfl, .ref b, some M, p, q, Rs, ms, rfl, ⟨b, rfl, mb.same sG⟩, (fun _ e => by cases e; exact zb), hR.same sG, hR2, hRn, Same.tup sG hp, hs, hn, fun v G1 B' t1 bB best => ?_⟩
    obtain ⟨N, rfl⟩ := best_some best cb lr
    obtain ⟨c, rfl, mc⟩ := bB
    have S1 := sG.trans t1
    have hS1 := (Stp.of_same hS S1).s
    have dok : ∀ {N : List (List Int)}, Sz (Rs.length + 1) N → Dok 3 (boxD (some N)) := fun {N} z => BSz.dok (n := Rs.length + 1) (B := some N) (fun _ e => by cases e; exact z) (by omega)
    refine ⟨_, rfl, _, rfl, _, rfl, _, rfl, a, b, q, p, M, Rs, ms, rfl, hS1, mb.same S1, zb, cb, lr, hR.same S1, hR2, hRn, Same.tup S1 hp, hn, fun v2 G2 N2 t2 b2 best2 => ?_⟩
    have e2 := best2.uniq best
    cases e2
    have bc : ∀ {F}, Same G1 F → BoxAt K F (.ref c) (some N) := fun t => ⟨c, rfl, mc.same t⟩
    refine ⟨_, _, _, rfl, (bc t2).dp, b2.dp, dok best.1, _, rfl, ifF rfl ?_⟩
    have S2 := S1.trans t2
    refine ⟨_, rfl, _, rfl, true, true, b, c, M, N, Rs.length + 1, rfl, mb.same S2, mc.same t2, zb, best.1, by omega, best.2.2.2 _ cb lr, ?_⟩
    have hS2 := (Stp.of_same hS S2).s
    refine ⟨_, rfl, ifF rfl ?_⟩
    refine ⟨_, rfl, _, rfl, a, q, Rs, rfl, hS2, hR.same S2, hR2, hRn, fun pr as G3 t3 hW => ?_⟩
    have lw2 : LeF (Rs.length + 1) (getM N) (getM (mkM (Rs.length + 1) (wid Rs))) := fun i hi j hj => by
      rw [mkM_get hi hj]
      exact (best.2.2.1.trans rndM_wid) i hi j hj
    refine ⟨false, false, c, pr, N, _, Rs.length + 1, rfl, mc.same (t2.trans t3), ⟨as, SqL.of hW.e, hW.rw.1, fun i x r e1 e2 => SqL.of (hW.rw.2 i x r e1 e2)⟩, best.1, mkM_sz, by omega, lw2, _, rfl, ifF rfl ?_⟩
    have S3 := S2.trans t3
    have T3 := t2.trans t3
    have nN : BSz (Rs.length + 1) (some N) := fun _ e => by cases e; exact best.1
    refine ⟨_, rfl, _, rfl, _, rfl, .ref c, some N, p, q, Rs, ms, rfl, bc T3, nN, hR.same S3, hR2, hRn, Same.tup S3 hp, hs, hn, fun v4 G4 B4 t4 b4 best4 => ?_⟩
    have e4 := best4.uniq (best_again best)
    subst e4
    have T4 := T3.trans t4
    have S4 := S3.trans t4
    refine ⟨_, rfl, _, _, _, rfl, b4.dp, (bc T4).dp, dok best.1, _, rfl, ifF rfl ?_⟩
    have eG4 := (t1.trans T4) _ _ eG
    refine ⟨_, rfl, .inl ⟨rfl, _, SqL.of eG4⟩, _, rfl, l, us, _, rfl, rfl, eG4, lt_line (by omega), ?_⟩
    refine ⟨us ++ [.ref c], _, _, rfl, put S4, upd_same, by rw [List.length_append, lu]; rfl, fun j v e => ?_⟩
    have bu : But l G4 (upd G4 l (.lst (us ++ [.ref c]))) := But.upd _
    by_cases hj : j < us.length
    · rw [List.getElem?_append_left hj] at e
      obtain ⟨c', N', e1, e2, e3⟩ := hu j v e
      exact ⟨c', N', e1, mx_but bu eG4 (e2.same (t1.trans T4)), e3⟩
    · rw [List.getElem?_append_right (by omega)] at e
      have j0 : j - us.length = 0 := by
        have := (List.getElem?_eq_some_iff.mp e).1
        simp at this
        omega
      rw [j0] at e
      have ej : j = i := by omega
      subst ej
      refine ⟨c, N, (Option.some.inj e).symm, mx_but bu eG4 (mc.same T4), ?_⟩
      rw [eM]
      exact best
  · rintro σ G ⟨us, x, y, rfl, sG, eG, lu, hu⟩
    have l2 : us.length = 2 := lu
    obtain ⟨v0, v1, rfl⟩ : ∃ v0 v1, us = [v0, v1] := by
      match us, l2 with
      | [a, b], _ => exact ⟨a, b, rfl⟩
    obtain ⟨d0, N0, rfl, x0, y0⟩ := hu 0 _ rfl
    obtain ⟨d1, N1, rfl, x1, y1⟩ := hu 1 _ rfl
    have y0 : Best (Rs.length + 1) (rndM ms Rs (getM M0)) (some N0) := y0
    have y1 : Best (Rs.length + 1) (rndM ms Rs (getM M1)) (some N1) := y1
    have le : LeF (Rs.length + 1) (getM N0) (getM N1) := y1.2.2.2 _ y0.2.1 (y0.2.2.1.trans (rndM_mono l01))
    refine ⟨_, rfl, l, _, 0, _, rfl, rfl, SqL.of eG, rfl, _, rfl, l, _, 1, _, rfl, rfl, SqL.of eG, rfl, ?_⟩
    refine ⟨true, true, d0, d1, N0, N1, Rs.length + 1, rfl, x0, x1, y0.1, y1.1, by omega, le, ?_⟩
    refine ⟨true, rfl, ifT rfl ⟨_, rfl, _, rfl, .non, none, p, q, Rs, ms, rfl, rfl, (fun _ e => nomatch e), hR.same sG, hR2, hRn, Same.tup sG hp, hs, hn, fun v F B' t b e => ?_⟩⟩
    have e : B' = none := e
    subst e
    have b : v = .non := b
    subst b
    exact ⟨rfl, k F (sG.trans t)⟩
end
/-! ### the law -/
theorem wi_at {Rs : List (List Int)} {r : List Int} (h : Wi Rs r) (hR : ∀ q ∈ Rs, IsRg q) {i : Nat} (hi : i < Rs.length + 1) :
    (([0, 0] :: Rs).getD i []).getD 0 0 ≤ (0 :: r).getD i 0 ∧ (0 :: r).getD i 0 ≤ (([0, 0] :: Rs).getD i []).getD 1 0 := by
  cases i with
  | zero => exact ⟨Int.le_refl _, Int.le_refl _⟩
  | succ k =>
    have hk : k < Rs.length := by omega
    have er : Rs[k]? = some Rs[k] := List.getElem?_eq_getElem hk
    obtain ⟨lo, hi2, e, _, _⟩ := hR _ (List.getElem_mem hk)
    rw [e] at er
    have hk2 : k < r.length := by rw [h.1]; exact hk
    have ev : r[k]? = some r[k] := List.getElem?_eq_getElem hk2
    have q := h.2 k lo hi2 _ er ev
    have e1 : ([0, 0] :: Rs).getD (k + 1) [] = [lo, hi2] := by
      show Rs.getD k [] = _
      rw [List.getD_eq_getElem?_getD, er]
      rfl
    have e2 : (0 :: r).getD (k + 1) 0 = r[k] := by
      show r.getD k 0 = _
      rw [List.getD_eq_getElem?_getD, ev]
      rfl
    rw [e1, e2]
    exact q
theorem hull_wid {Rs Ps : List (List Int)} (hP : Ps ≠ []) (hw : ∀ r ∈ Ps, Wi Rs r) (hR : ∀ q ∈ Rs, IsRg q) : LeF (Rs.length + 1) (getM (hullM Rs.length Ps)) (wid Rs) := fun i hi j hj => by
  by_cases e : i = j
  · subst e
    rw [hull_diag hP hi]
    unfold wid
    rw [if_pos rfl]
    exact Int.le_refl _
  · rw [getM_hull hi hj]
    unfold wid
    rw [if_neg e]
    have m := lmax_mem (xs := Ps.map (dif i j)) (fun z => hP (List.map_eq_nil_iff.mp z))
    obtain ⟨r, hr, er⟩ := List.mem_map.mp m
    rw [← er]
    have a := wi_at (hw r hr) hR hi
    have b := wi_at (hw r hr) hR hj
    unfold dif
    omega
theorem hull_clo {n : Nat} {Ps : List (List Int)} (hP : Ps ≠ []) : Clo (n + 1) (getM (hullM n Ps)) := ⟨fun i hi => hull_diag hP hi, fun i hi j hj k hk => hull_tri hP hi hj hk⟩
theorem hull_more {n : Nat} {Ps Qs : List (List Int)} (hP : Ps ≠ []) : LeF (n + 1) (getM (hullM n Ps)) (getM (hullM n (Ps ++ Qs))) := fun i hi j hj => by
  rw [getM_hull hi hj, getM_hull hi hj]
  have m := lmax_mem (xs := Ps.map (dif i j)) (fun z => hP (List.map_eq_nil_iff.mp z))
  refine lmax_le ?_
  rw [List.map_append]
  exact List.mem_append.mpr (.inl m)
def spLaw (K : PySem.W.Frag) : Sp := fun vs H Q _ => ∃ (a : Addr) (ns : List Int), vs = [.ref a] ∧ SqL K H a (ns.map V.int) ∧ ns.length ≤ 63 ∧ ∀ H', Q (.bl true) H'
section
variable {P : Program} {w : World} {K : PySem.W.Frag} {mg : Str → Option Value} {base : Heap}
theorem ok_law (T : Txt w K mg) : FnOk P w K mg base CX0 5 T.a_law T.d_law p_law (spLaw K) := by
  have g_l_cell := ok_l_cell (P := P) (w := w) (K := K) (base := base) T
  have g_l_source := ok_l_source (P := P) (w := w) (base := base) T
  have g_l_pick := ok_l_pick (P := P) (w := w) (base := base) T
  have g_l_ranges := ok_l_ranges (P := P) (w := w) (K := K) (base := base) T
  have g_l_points := ok_l_points (P := P) (w := w) (K := K) (base := base) T
  have g_l_box := ok_l_box (P := P) (w := w) (K := K) (base := base) T
  have g_l_marks := ok_l_marks (P := P) (w := w) (K := K) (base := base) T
  have g_l_right := ok_l_right (P := P) (w := w) (K := K) (base := base) T
  refine T.F_law.ok sc_law (fun vs H Q E h => ?_) (fun cdv A outer s H vs Q E hr h => ?_)
  · obtain ⟨a, ns, rfl, _⟩ := h
    rfl
  obtain ⟨a, ns, rfl, hS, h63, q⟩ := h
  refine ⟨_, (pss_cons (ps_set (i := 1) sc_law.nd rfl (Or.inl rfl) (pe_call g_l_source (hr.mono (by first | decide | omega)) rfl T.m_l_source T.F_l_source.kp T.b_l_source .nil pass0 (pa_cons (pe_op op_add (pe_op op_add (pe_call g_l_cell (hr.mono (by first | decide | omega)) rfl T.m_l_cell T.F_l_cell.kp T.b_l_cell .nil pass0 (pa_cons (pv 0) (pa_cons pe_int pa_nil))) (pe_op op_mul pe_int (pe_call g_l_cell (hr.mono (by first | decide | omega)) rfl T.m_l_cell T.F_l_cell.kp T.b_l_cell .nil pass0 (pa_cons (pv 0) (pa_cons pe_int pa_nil))))) (pe_op op_mul pe_int (pe_call g_l_cell (hr.mono (by first | decide | omega)) rfl T.m_l_cell T.F_l_cell.kp T.b_l_cell .nil pass0 (pa_cons (pv 0) (pa_cons pe_int pa_nil))))) pa_nil)))
      (pss_cons (ps_set (i := 2) sc_law.nd rfl (Or.inl rfl) (pe_call g_l_pick (hr.mono (by first | decide | omega)) rfl T.m_l_pick T.F_l_pick.kp T.b_l_pick .nil pass0 (pa_cons (pv 1) (pa_cons pe_int pa_nil))))
      (C8.pss_cut (ps_if (pt_cmpR op_eq (pe_call g_l_pick (hr.mono (by first | decide | omega)) rfl T.m_l_pick T.F_l_pick.kp T.b_l_pick .nil pass0 (pa_cons (pv 1) (pa_cons pe_int pa_nil))) pe_int (nomark _)) (pss_one (ps_set (i := 2) sc_law.nd rfl (Or.inl rfl) (pe_call g_l_pick (hr.mono (by first | decide | omega)) rfl T.m_l_pick T.F_l_pick.kp T.b_l_pick .nil pass0 (pa_cons (pv 1) (pa_cons pe_int pa_nil))))) pss_nil)
      (pss_cons (ps_set (i := 3) sc_law.nd rfl (Or.inl rfl) (pe_call g_l_ranges (hr.mono (by first | decide | omega)) rfl T.m_l_ranges T.F_l_ranges.kp T.b_l_ranges .nil pass0 (pa_cons (pv 1) (pa_cons (pv 2) pa_nil))))
      (pss_cons (ps_set (i := 4) sc_law.nd rfl (Or.inl rfl) (pe_call g_l_points (hr.mono (by first | decide | omega)) rfl T.m_l_points T.F_l_points.kp T.b_l_points .nil pass0 (pa_cons (pv 1) (pa_cons (pv 3) pa_nil))))
      (pss_cons (ps_set (i := 5) sc_law.nd rfl (Or.inl rfl) (pe_lst (pa_cons (pe_call g_l_box (hr.mono (by first | decide | omega)) rfl T.m_l_box T.F_l_box.kp T.b_l_box .nil pass0 (pa_cons (pv 4) pa_nil)) (pa_cons (pe_call g_l_box (hr.mono (by first | decide | omega)) rfl T.m_l_box T.F_l_box.kp T.b_l_box .nil pass0 (pa_cons (pe_op op_cat (pv 4) (pe_call g_l_points (hr.mono (by first | decide | omega)) rfl T.m_l_points T.F_l_points.kp T.b_l_points .nil pass0 (pa_cons (pv 1) (pa_cons (pv 3) pa_nil)))) pa_nil)) pa_nil))))
      (pss_cons (ps_set (i := 6) sc_law.nd rfl (Or.inl rfl) (pe_call g_l_marks (hr.mono (by first | decide | omega)) rfl T.m_l_marks T.F_l_marks.kp T.b_l_marks .nil pass0 (pa_cons (pv 1) (pa_cons (pv 3) (pa_cons (pv 5) pa_nil)))))
      (pss_cons (ps_set (i := 7) sc_law.nd rfl (Or.inl rfl) (pe_call g_l_marks (hr.mono (by first | decide | omega)) rfl T.m_l_marks T.F_l_marks.kp T.b_l_marks .nil pass0 (pa_cons (pv 1) (pa_cons (pv 3) (pa_cons (pv 5) pa_nil)))))
      (pss_cons (ps_if (PW.pt (pw_or (pt_not (pt_val (pe_call g_l_right (hr.mono (by first | decide | omega)) rfl T.m_l_right T.F_l_right.kp T.b_l_right .nil pass0 (pa_cons (pv 5) (pa_cons (pv 3) (pa_cons (pv 6) pa_nil)))))) (pw_or1 (pt_not (pt_val (pe_call g_l_right (hr.mono (by first | decide | omega)) rfl T.m_l_right T.F_l_right.kp T.b_l_right .nil pass0 (pa_cons (pv 5) (pa_cons (pv 3) (pa_cons (pv 7) pa_nil))))))))) (pss_one (ps_ret pe_bl)) pss_nil)
      (pss_one (ps_ret (pe_call g_l_right (hr.mono (by first | decide | omega)) rfl T.m_l_right T.F_l_right.kp T.b_l_right .nil pass0 (pa_cons (pv 5) (pa_cons (pv 3) (pa_cons (pv 6) pa_nil))))))))))))))), ?_⟩
  refine ⟨_, rfl, a, ns, 0, rfl, hS, by decide, fun c0 => ?_⟩
  refine ⟨_, rfl, a, ns, 1, rfl, hS, by decide, fun c1 => ?_⟩
  refine ⟨_, _, rfl, rfl, .inl ⟨by decide, by decide⟩, _, _, rfl, rfl, ?_⟩
  refine ⟨_, rfl, a, ns, 2, rfl, hS, by decide, fun c2 => ?_⟩
  refine ⟨_, _, rfl, rfl, .inl ⟨by decide, by decide⟩, _, _, rfl, rfl, ?_⟩
  refine ⟨_, rfl, fun p0 H1 hp0 s1 src => ?_⟩
  refine ⟨_, rfl, p0, 4, rfl, src, by decide, fun r0 H2 st2 r00 r01 => ?_⟩
  refine ⟨fun σ G => ∃ n : Nat, σ = [some (.ref a), some (.ref p0), some (.int n), none, none, none, none, none] ∧ Stp p0 H1 G ∧ n ≤ 17, ?_, ?_⟩
  · refine ⟨_, rfl, p0, 8, rfl, st2.s, by decide, fun r1 H3 st3 _ _ => ⟨rfl, _, rfl, ite2 (fun _ => ?_) (fun _ => ?_)⟩⟩
    · refine ⟨_, rfl, p0, 17, rfl, (st2.trans st3).s, by decide, fun r2 H4 st4 r20 r21 => ?_⟩
      refine ⟨r2.toNat, ?_, (st2.trans st3).trans st4, by omega⟩
      have e : (r2.toNat : Int) = r2 := by omega
      rw [e]
      rfl
    · refine ⟨r0.toNat, ?_, st2.trans st3, by omega⟩
      have e : (r0.toNat : Int) = r0 := by omega
      rw [e]
      rfl
  rintro σ G ⟨n, rfl, sG, hn⟩
  refine ⟨_, rfl, _, rfl, p0, n, rfl, sG.s, by omega, fun t G1 Rs st1 mR lR hRg => ?_⟩
  subst lR
  have S1 := sG.trans st1
  refine ⟨_, rfl, _, rfl, p0, t, Rs, rfl, S1.s, mR, by omega, hRg, fun ps G2 Ps st2' hps pPs neP lP wP => ?_⟩
  have S2 := S1.trans st2'
  have mR2 : ∀ {F}, Stp p0 G1 F → Mx true true K F t Rs := fun {F} s => by
    obtain ⟨as, h1, h2, h3⟩ := mR
    exact ⟨as, s.rd h1 S1.s, h2, fun i a r e1 e2 => s.rd (h3 i a r e1 e2) S1.s⟩
  refine ⟨_, rfl, ps, Rs.length, Ps, rfl, by omega, pPs.mx, (fun r hr => (wP r hr).1), by omega, neP, fun v0 G3 s3 b0 => ?_⟩
  obtain ⟨x0, rfl, m0⟩ : ∃ x0, v0 = .ref x0 ∧ Mx true true K G3 x0 (hullM Rs.length Ps) := by
    unfold hull at b0
    rwa [if_neg neP] at b0
  have st3 : Stp p0 G1 G3 := st2'.same s3
  refine ⟨_, rfl, _, rfl, _, rfl, p0, t, Rs, rfl, (S1.trans st3).s, mR2 st3, by omega, hRg, fun ps2 G4 Ps2 st4 hps2 pPs2 neP2 lP2 wP2 => ?_⟩
  have mxs : ∀ {F F' : Hp} {x : Addr} {M : List (List Int)}, Stp p0 F F' → Src F p0 → Mx true true K F x M → Mx true true K F' x M := fun {F F' x M} s hs h => by
    obtain ⟨as, h1, h2, h3⟩ := h
    exact ⟨as, s.rd h1 hs, h2, fun i a r e1 e2 => s.rd (h3 i a r e1 e2) hs⟩
  obtain ⟨as1, e1, pa1⟩ := pPs.pa
  obtain ⟨as2, e2, pa2⟩ := pPs2.pa
  have n1 : ps ≠ p0 := (S1.s.ne hps).symm
  have sr3 := (S1.trans st3).s
  have sr4 := st4.s
  have eG4 := st4.k _ _ n1 (s3 _ _ e1)
  have l1 := pa1.1
  have l2 := pa2.1
  refine ⟨ps, ps2, _, _, rfl, rfl, eG4, e2, (by rw [sizeLine_eq, List.length_map, List.length_map]; omega), fun pc hpc => ?_⟩
  have pa3 := (((pa1.same s3).stp st4 sr3).append pa2).same (Same.new hpc (.lst (as1.map V.ref ++ as2.map V.ref)))
  have pt3 := pa3.pts (p := pc) (by rw [upd_same, List.map_append])
  have neQ : Ps ++ Ps2 ≠ [] := fun z => neP (List.append_eq_nil_iff.mp z).1
  have wQ : ∀ r ∈ Ps ++ Ps2, Wi Rs r := fun r hr => by
    rcases List.mem_append.mp hr with h | h
    · exact wP r h
    · exact wP2 r h
  refine ⟨pc, Rs.length, Ps ++ Ps2, rfl, by omega, pt3.mx, (fun r hr => (wQ r hr).1), by rw [List.length_append]; omega, neQ, fun v1 G6 s6 b1 => ?_⟩
  obtain ⟨x1, rfl, m1⟩ : ∃ x1, v1 = .ref x1 ∧ Mx true true K G6 x1 (hullM Rs.length (Ps ++ Ps2)) := by
    unfold hull at b1
    rwa [if_neg neQ] at b1
  refine ⟨(by show 2 ≤ sizeLine; decide), fun pb hpb => ?_⟩
  have s7 := ((Same.new hpc (.lst (as1.map V.ref ++ as2.map V.ref))).trans s6).trans (Same.new hpb (.lst [.ref x0, .ref x1]))
  have st7 := st4.same s7
  have st17 := st3.trans st7
  have m07 := mxs st7 sr3 m0
  have m17 := m1.same (Same.new hpb (.lst [.ref x0, .ref x1]))
  have epb : upd G6 pb (.lst [.ref x0, .ref x1]) pb = some (.lst [.ref x0, .ref x1]) := upd_same
  have npb : pb ≠ p0 := fun z => by
    have := (st4.same ((Same.new hpc (.lst (as1.map V.ref ++ as2.map V.ref))).trans s6)).s.ne hpb
    exact this z.symm
  generalize upd G6 pb (.lst [.ref x0, .ref x1]) = G7 at s7 st7 st17 m07 m17 epb
  have two : ∀ r ∈ Rs, r.length = 2 := fun r hr => by
    obtain ⟨lo, hi, e, _⟩ := hRg r hr
    rw [e]
    rfl
  refine ⟨_, rfl, _, rfl, _, rfl, p0, t, pb, x0, x1, _, _, Rs, Rs.length + 1, rfl, st7.s, npb, mR2 st17, two, by omega, epb, m07, m17, hullM_sz _ _, hullM_sz _ _, by omega, by omega, fun tm G8 ms st8 hm pm lm => ?_⟩
  refine ⟨_, rfl, _, rfl, _, rfl, p0, t, pb, x0, x1, _, _, Rs, Rs.length + 1, rfl, st8.s, npb, mR2 (st17.trans st8), two, by omega, st8.k _ _ npb epb, mxs st8 st7.s m07, mxs st8 st7.s m17, hullM_sz _ _, hullM_sz _ _, by omega, by omega, fun tm2 G9 ms2 st9 hm2 pm2 lm2 => ?_⟩
  have st79 := st8.trans st9
  have hw := hull_wid neQ wQ hRg
  have hmA : SqT K G9 tm (ms.map V.int) := st9.rd hm st8.s
  have sR : Same G9 G9 := Same.refl _
  refine ⟨_, rfl, _, rfl, _, rfl, p0, pb, t, tm, x0, x1, _, _, Rs, ms, rfl, (Stp.of_same st9.s sR).s, sR _ _ (st79.k _ _ npb epb), (mxs st79 st7.s m07).same sR, (mxs st79 st7.s m17).same sR, hullM_sz _ _, hullM_sz _ _, hull_clo neP, hull_clo neQ, hull_more neP, hw, (mR2 (st17.trans st79)).same sR, two, by omega, Same.tup sR hmA, pm, by omega, fun G10 s10 => ?_⟩
  refine ⟨_, rfl, ifF rfl ⟨_, rfl, _, rfl, _, rfl, p0, pb, t, tm2, x0, x1, _, _, Rs, ms2, rfl, (Stp.of_same st9.s s10).s, s10 _ _ (st79.k _ _ npb epb), (mxs st79 st7.s m07).same s10, (mxs st79 st7.s m17).same s10, hullM_sz _ _, hullM_sz _ _, hull_clo neP, hull_clo neQ, hull_more neP, hw, (mR2 (st17.trans st79)).same s10, two, by omega, Same.tup s10 hm2, pm2, by omega, fun G11 s11 => ?_⟩⟩
  have s11' := s10.trans s11
  refine ⟨_, rfl, ifF rfl ⟨_, rfl, _, rfl, _, rfl, p0, pb, t, tm, x0, x1, _, _, Rs, ms, rfl, (Stp.of_same st9.s s11').s, s11' _ _ (st79.k _ _ npb epb), (mxs st79 st7.s m07).same s11', (mxs st79 st7.s m17).same s11', hullM_sz _ _, hullM_sz _ _, hull_clo neP, hull_clo neQ, hull_more neP, hw, (mR2 (st17.trans st79)).same s11', two, by omega, Same.tup s11' hmA, pm, by omega, fun G12 s12 => ?_⟩⟩
  exact q G12
end
theorem all_mk {l : PySem.W.OpenLaw} {w : World} {K : PySem.W.Frag} {h : Heap} {mg : Str → Option Value} {fa : Addr} (X : K.In h) (G : h.Ns mainGlobals mg) (hfa : mg "law" = some (.ref fa))
    {f_close : Addr} {od_close an_close : Option Addr} {sl_close : Array (Option Value)} {oc_close kV_close dc_close pm_close cd_close ct_close : Value}
    (A_close : PySem.W.nsIn K mainGlobals "close" = some (some (.ref f_close))) (L_close : K.lookup f_close = some ⟨oc_close, od_close, .func (PySem.W.fnOf "close" "close" (defArgs s_close) (defBody s_close) (defScope s_close) .none kV_close dc_close pm_close an_close cd_close ct_close), sl_close⟩) (C_close : PySem.W.codeIn K cd_close "close" = true) (K_close : PySem.W.keepIn K (.ref f_close) = true)
    {f_has_contradiction : Addr} {od_has_contradiction an_has_contradiction : Option Addr} {sl_has_contradiction : Array (Option Value)} {oc_has_contradiction kV_has_contradiction dc_has_contradiction pm_has_contradiction cd_has_contradiction ct_has_contradiction : Value}
    (A_has_contradiction : PySem.W.nsIn K mainGlobals "has_contradiction" = some (some (.ref f_has_contradiction))) (L_has_contradiction : K.lookup f_has_contradiction = some ⟨oc_has_contradiction, od_has_contradiction, .func (PySem.W.fnOf "has_contradiction" "has_contradiction" (defArgs s_has_contradiction) (defBody s_has_contradiction) (defScope s_has_contradiction) .none kV_has_contradiction dc_has_contradiction pm_has_contradiction an_has_contradiction cd_has_contradiction ct_has_contradiction), sl_has_contradiction⟩) (C_has_contradiction : PySem.W.codeIn K cd_has_contradiction "has_contradiction" = true) (K_has_contradiction : PySem.W.keepIn K (.ref f_has_contradiction) = true)
    {f_shortened : Addr} {od_shortened an_shortened : Option Addr} {sl_shortened : Array (Option Value)} {oc_shortened kV_shortened dc_shortened pm_shortened cd_shortened ct_shortened : Value}
    (A_shortened : PySem.W.nsIn K mainGlobals "shortened" = some (some (.ref f_shortened))) (L_shortened : K.lookup f_shortened = some ⟨oc_shortened, od_shortened, .func (PySem.W.fnOf "shortened" "shortened" (defArgs s_shortened) (defBody s_shortened) (defScope s_shortened) .none kV_shortened dc_shortened pm_shortened an_shortened cd_shortened ct_shortened), sl_shortened⟩) (C_shortened : PySem.W.codeIn K cd_shortened "shortened" = true) (K_shortened : PySem.W.keepIn K (.ref f_shortened) = true)
    {f_frozen : Addr} {od_frozen an_frozen : Option Addr} {sl_frozen : Array (Option Value)} {oc_frozen kV_frozen dc_frozen pm_frozen cd_frozen ct_frozen : Value}
    (A_frozen : PySem.W.nsIn K mainGlobals "frozen" = some (some (.ref f_frozen))) (L_frozen : K.lookup f_frozen = some ⟨oc_frozen, od_frozen, .func (PySem.W.fnOf "frozen" "frozen" (defArgs s_frozen) (defBody s_frozen) (defScope s_frozen) .none kV_frozen dc_frozen pm_frozen an_frozen cd_frozen ct_frozen), sl_frozen⟩) (C_frozen : PySem.W.codeIn K cd_frozen "frozen" = true) (K_frozen : PySem.W.keepIn K (.ref f_frozen) = true)
    {f_least_mark : Addr} {od_least_mark an_least_mark : Option Addr} {sl_least_mark : Array (Option Value)} {oc_least_mark kV_least_mark dc_least_mark pm_least_mark cd_least_mark ct_least_mark : Value}
    (A_least_mark : PySem.W.nsIn K mainGlobals "least_mark" = some (some (.ref f_least_mark))) (L_least_mark : K.lookup f_least_mark = some ⟨oc_least_mark, od_least_mark, .func (PySem.W.fnOf "least_mark" "least_mark" (defArgs s_least_mark) (defBody s_least_mark) (defScope s_least_mark) .none kV_least_mark dc_least_mark pm_least_mark an_least_mark cd_least_mark ct_least_mark), sl_least_mark⟩) (C_least_mark : PySem.W.codeIn K cd_least_mark "least_mark" = true) (K_least_mark : PySem.W.keepIn K (.ref f_least_mark) = true)
    {f_rounded : Addr} {od_rounded an_rounded : Option Addr} {sl_rounded : Array (Option Value)} {oc_rounded kV_rounded dc_rounded pm_rounded cd_rounded ct_rounded : Value}
    (A_rounded : PySem.W.nsIn K mainGlobals "rounded" = some (some (.ref f_rounded))) (L_rounded : K.lookup f_rounded = some ⟨oc_rounded, od_rounded, .func (PySem.W.fnOf "rounded" "rounded" (defArgs s_rounded) (defBody s_rounded) (defScope s_rounded) .none kV_rounded dc_rounded pm_rounded an_rounded cd_rounded ct_rounded), sl_rounded⟩) (C_rounded : PySem.W.codeIn K cd_rounded "rounded" = true) (K_rounded : PySem.W.keepIn K (.ref f_rounded) = true)
    {f_round_box : Addr} {od_round_box an_round_box : Option Addr} {sl_round_box : Array (Option Value)} {oc_round_box kV_round_box dc_round_box pm_round_box cd_round_box ct_round_box : Value}
    (A_round_box : PySem.W.nsIn K mainGlobals "round_box" = some (some (.ref f_round_box))) (L_round_box : K.lookup f_round_box = some ⟨oc_round_box, od_round_box, .func (PySem.W.fnOf "round_box" "round_box" (defArgs s_round_box) (defBody s_round_box) (defScope s_round_box) .none kV_round_box dc_round_box pm_round_box an_round_box cd_round_box ct_round_box), sl_round_box⟩) (C_round_box : PySem.W.codeIn K cd_round_box "round_box" = true) (K_round_box : PySem.W.keepIn K (.ref f_round_box) = true)
    {f_l_cell : Addr} {od_l_cell an_l_cell : Option Addr} {sl_l_cell : Array (Option Value)} {oc_l_cell kV_l_cell dc_l_cell pm_l_cell cd_l_cell ct_l_cell : Value}
    (A_l_cell : PySem.W.nsIn K mainGlobals "_law_cell" = some (some (.ref f_l_cell))) (L_l_cell : K.lookup f_l_cell = some ⟨oc_l_cell, od_l_cell, .func (PySem.W.fnOf "_law_cell" "_law_cell" (defArgs s_l_cell) (defBody s_l_cell) (defScope s_l_cell) .none kV_l_cell dc_l_cell pm_l_cell an_l_cell cd_l_cell ct_l_cell), sl_l_cell⟩) (C_l_cell : PySem.W.codeIn K cd_l_cell "_law_cell" = true) (K_l_cell : PySem.W.keepIn K (.ref f_l_cell) = true)
    {f_l_source : Addr} {od_l_source an_l_source : Option Addr} {sl_l_source : Array (Option Value)} {oc_l_source kV_l_source dc_l_source pm_l_source cd_l_source ct_l_source : Value}
    (A_l_source : PySem.W.nsIn K mainGlobals "_law_source" = some (some (.ref f_l_source))) (L_l_source : K.lookup f_l_source = some ⟨oc_l_source, od_l_source, .func (PySem.W.fnOf "_law_source" "_law_source" (defArgs s_l_source) (defBody s_l_source) (defScope s_l_source) .none kV_l_source dc_l_source pm_l_source an_l_source cd_l_source ct_l_source), sl_l_source⟩) (C_l_source : PySem.W.codeIn K cd_l_source "_law_source" = true) (K_l_source : PySem.W.keepIn K (.ref f_l_source) = true)
    {f_l_pick : Addr} {od_l_pick an_l_pick : Option Addr} {sl_l_pick : Array (Option Value)} {oc_l_pick kV_l_pick dc_l_pick pm_l_pick cd_l_pick ct_l_pick : Value}
    (A_l_pick : PySem.W.nsIn K mainGlobals "_law_pick" = some (some (.ref f_l_pick))) (L_l_pick : K.lookup f_l_pick = some ⟨oc_l_pick, od_l_pick, .func (PySem.W.fnOf "_law_pick" "_law_pick" (defArgs s_l_pick) (defBody s_l_pick) (defScope s_l_pick) .none kV_l_pick dc_l_pick pm_l_pick an_l_pick cd_l_pick ct_l_pick), sl_l_pick⟩) (C_l_pick : PySem.W.codeIn K cd_l_pick "_law_pick" = true) (K_l_pick : PySem.W.keepIn K (.ref f_l_pick) = true)
    {f_l_one : Addr} {od_l_one an_l_one : Option Addr} {sl_l_one : Array (Option Value)} {oc_l_one kV_l_one dc_l_one pm_l_one cd_l_one ct_l_one : Value}
    (A_l_one : PySem.W.nsIn K mainGlobals "_law_one" = some (some (.ref f_l_one))) (L_l_one : K.lookup f_l_one = some ⟨oc_l_one, od_l_one, .func (PySem.W.fnOf "_law_one" "_law_one" (defArgs s_l_one) (defBody s_l_one) (defScope s_l_one) .none kV_l_one dc_l_one pm_l_one an_l_one cd_l_one ct_l_one), sl_l_one⟩) (C_l_one : PySem.W.codeIn K cd_l_one "_law_one" = true) (K_l_one : PySem.W.keepIn K (.ref f_l_one) = true)
    {f_l_far : Addr} {od_l_far an_l_far : Option Addr} {sl_l_far : Array (Option Value)} {oc_l_far kV_l_far dc_l_far pm_l_far cd_l_far ct_l_far : Value}
    (A_l_far : PySem.W.nsIn K mainGlobals "_law_far" = some (some (.ref f_l_far))) (L_l_far : K.lookup f_l_far = some ⟨oc_l_far, od_l_far, .func (PySem.W.fnOf "_law_far" "_law_far" (defArgs s_l_far) (defBody s_l_far) (defScope s_l_far) .none kV_l_far dc_l_far pm_l_far an_l_far cd_l_far ct_l_far), sl_l_far⟩) (C_l_far : PySem.W.codeIn K cd_l_far "_law_far" = true) (K_l_far : PySem.W.keepIn K (.ref f_l_far) = true)
    {f_l_ranges : Addr} {od_l_ranges an_l_ranges : Option Addr} {sl_l_ranges : Array (Option Value)} {oc_l_ranges kV_l_ranges dc_l_ranges pm_l_ranges cd_l_ranges ct_l_ranges : Value}
    (A_l_ranges : PySem.W.nsIn K mainGlobals "_law_ranges" = some (some (.ref f_l_ranges))) (L_l_ranges : K.lookup f_l_ranges = some ⟨oc_l_ranges, od_l_ranges, .func (PySem.W.fnOf "_law_ranges" "_law_ranges" (defArgs s_l_ranges) (defBody s_l_ranges) (defScope s_l_ranges) .none kV_l_ranges dc_l_ranges pm_l_ranges an_l_ranges cd_l_ranges ct_l_ranges), sl_l_ranges⟩) (C_l_ranges : PySem.W.codeIn K cd_l_ranges "_law_ranges" = true) (K_l_ranges : PySem.W.keepIn K (.ref f_l_ranges) = true)
    {f_l_points : Addr} {od_l_points an_l_points : Option Addr} {sl_l_points : Array (Option Value)} {oc_l_points kV_l_points dc_l_points pm_l_points cd_l_points ct_l_points : Value}
    (A_l_points : PySem.W.nsIn K mainGlobals "_law_points" = some (some (.ref f_l_points))) (L_l_points : K.lookup f_l_points = some ⟨oc_l_points, od_l_points, .func (PySem.W.fnOf "_law_points" "_law_points" (defArgs s_l_points) (defBody s_l_points) (defScope s_l_points) .none kV_l_points dc_l_points pm_l_points an_l_points cd_l_points ct_l_points), sl_l_points⟩) (C_l_points : PySem.W.codeIn K cd_l_points "_law_points" = true) (K_l_points : PySem.W.keepIn K (.ref f_l_points) = true)
    {f_l_box : Addr} {od_l_box an_l_box : Option Addr} {sl_l_box : Array (Option Value)} {oc_l_box kV_l_box dc_l_box pm_l_box cd_l_box ct_l_box : Value}
    (A_l_box : PySem.W.nsIn K mainGlobals "_law_box" = some (some (.ref f_l_box))) (L_l_box : K.lookup f_l_box = some ⟨oc_l_box, od_l_box, .func (PySem.W.fnOf "_law_box" "_law_box" (defArgs s_l_box) (defBody s_l_box) (defScope s_l_box) .none kV_l_box dc_l_box pm_l_box an_l_box cd_l_box ct_l_box), sl_l_box⟩) (C_l_box : PySem.W.codeIn K cd_l_box "_law_box" = true) (K_l_box : PySem.W.keepIn K (.ref f_l_box) = true)
    {f_l_marks : Addr} {od_l_marks an_l_marks : Option Addr} {sl_l_marks : Array (Option Value)} {oc_l_marks kV_l_marks dc_l_marks pm_l_marks cd_l_marks ct_l_marks : Value}
    (A_l_marks : PySem.W.nsIn K mainGlobals "_law_marks" = some (some (.ref f_l_marks))) (L_l_marks : K.lookup f_l_marks = some ⟨oc_l_marks, od_l_marks, .func (PySem.W.fnOf "_law_marks" "_law_marks" (defArgs s_l_marks) (defBody s_l_marks) (defScope s_l_marks) .none kV_l_marks dc_l_marks pm_l_marks an_l_marks cd_l_marks ct_l_marks), sl_l_marks⟩) (C_l_marks : PySem.W.codeIn K cd_l_marks "_law_marks" = true) (K_l_marks : PySem.W.keepIn K (.ref f_l_marks) = true)
    {f_l_closed : Addr} {od_l_closed an_l_closed : Option Addr} {sl_l_closed : Array (Option Value)} {oc_l_closed kV_l_closed dc_l_closed pm_l_closed cd_l_closed ct_l_closed : Value}
    (A_l_closed : PySem.W.nsIn K mainGlobals "_law_closed" = some (some (.ref f_l_closed))) (L_l_closed : K.lookup f_l_closed = some ⟨oc_l_closed, od_l_closed, .func (PySem.W.fnOf "_law_closed" "_law_closed" (defArgs s_l_closed) (defBody s_l_closed) (defScope s_l_closed) .none kV_l_closed dc_l_closed pm_l_closed an_l_closed cd_l_closed ct_l_closed), sl_l_closed⟩) (C_l_closed : PySem.W.codeIn K cd_l_closed "_law_closed" = true) (K_l_closed : PySem.W.keepIn K (.ref f_l_closed) = true)
    {f_l_widest : Addr} {od_l_widest an_l_widest : Option Addr} {sl_l_widest : Array (Option Value)} {oc_l_widest kV_l_widest dc_l_widest pm_l_widest cd_l_widest ct_l_widest : Value}
    (A_l_widest : PySem.W.nsIn K mainGlobals "_law_widest" = some (some (.ref f_l_widest))) (L_l_widest : K.lookup f_l_widest = some ⟨oc_l_widest, od_l_widest, .func (PySem.W.fnOf "_law_widest" "_law_widest" (defArgs s_l_widest) (defBody s_l_widest) (defScope s_l_widest) .none kV_l_widest dc_l_widest pm_l_widest an_l_widest cd_l_widest ct_l_widest), sl_l_widest⟩) (C_l_widest : PySem.W.codeIn K cd_l_widest "_law_widest" = true) (K_l_widest : PySem.W.keepIn K (.ref f_l_widest) = true)
    {f_l_due : Addr} {od_l_due an_l_due : Option Addr} {sl_l_due : Array (Option Value)} {oc_l_due kV_l_due dc_l_due pm_l_due cd_l_due ct_l_due : Value}
    (A_l_due : PySem.W.nsIn K mainGlobals "_law_due" = some (some (.ref f_l_due))) (L_l_due : K.lookup f_l_due = some ⟨oc_l_due, od_l_due, .func (PySem.W.fnOf "_law_due" "_law_due" (defArgs s_l_due) (defBody s_l_due) (defScope s_l_due) .none kV_l_due dc_l_due pm_l_due an_l_due cd_l_due ct_l_due), sl_l_due⟩) (C_l_due : PySem.W.codeIn K cd_l_due "_law_due" = true) (K_l_due : PySem.W.keepIn K (.ref f_l_due) = true)
    {f_l_below : Addr} {od_l_below an_l_below : Option Addr} {sl_l_below : Array (Option Value)} {oc_l_below kV_l_below dc_l_below pm_l_below cd_l_below ct_l_below : Value}
    (A_l_below : PySem.W.nsIn K mainGlobals "_law_below" = some (some (.ref f_l_below))) (L_l_below : K.lookup f_l_below = some ⟨oc_l_below, od_l_below, .func (PySem.W.fnOf "_law_below" "_law_below" (defArgs s_l_below) (defBody s_l_below) (defScope s_l_below) .none kV_l_below dc_l_below pm_l_below an_l_below cd_l_below ct_l_below), sl_l_below⟩) (C_l_below : PySem.W.codeIn K cd_l_below "_law_below" = true) (K_l_below : PySem.W.keepIn K (.ref f_l_below) = true)
    {f_l_same : Addr} {od_l_same an_l_same : Option Addr} {sl_l_same : Array (Option Value)} {oc_l_same kV_l_same dc_l_same pm_l_same cd_l_same ct_l_same : Value}
    (A_l_same : PySem.W.nsIn K mainGlobals "_law_same" = some (some (.ref f_l_same))) (L_l_same : K.lookup f_l_same = some ⟨oc_l_same, od_l_same, .func (PySem.W.fnOf "_law_same" "_law_same" (defArgs s_l_same) (defBody s_l_same) (defScope s_l_same) .none kV_l_same dc_l_same pm_l_same an_l_same cd_l_same ct_l_same), sl_l_same⟩) (C_l_same : PySem.W.codeIn K cd_l_same "_law_same" = true) (K_l_same : PySem.W.keepIn K (.ref f_l_same) = true)
    {f_l_right : Addr} {od_l_right an_l_right : Option Addr} {sl_l_right : Array (Option Value)} {oc_l_right kV_l_right dc_l_right pm_l_right cd_l_right ct_l_right : Value}
    (A_l_right : PySem.W.nsIn K mainGlobals "_law_right" = some (some (.ref f_l_right))) (L_l_right : K.lookup f_l_right = some ⟨oc_l_right, od_l_right, .func (PySem.W.fnOf "_law_right" "_law_right" (defArgs s_l_right) (defBody s_l_right) (defScope s_l_right) .none kV_l_right dc_l_right pm_l_right an_l_right cd_l_right ct_l_right), sl_l_right⟩) (C_l_right : PySem.W.codeIn K cd_l_right "_law_right" = true) (K_l_right : PySem.W.keepIn K (.ref f_l_right) = true)
    {f_law : Addr} {od_law an_law : Option Addr} {sl_law : Array (Option Value)} {oc_law kV_law dc_law pm_law cd_law ct_law : Value}
    (A_law : PySem.W.nsIn K mainGlobals "law" = some (some (.ref f_law))) (L_law : K.lookup f_law = some ⟨oc_law, od_law, .func (PySem.W.fnOf "law" "law" (defArgs s_law) (defBody s_law) (defScope s_law) .none kV_law dc_law pm_law an_law cd_law ct_law), sl_law⟩) (C_law : PySem.W.codeIn K cd_law "law" = true) (K_law : PySem.W.keepIn K (.ref f_law) = true)
    (Z_any : PySem.W.nsIn K mainGlobals "any" = some none)
    (Z_bool : PySem.W.nsIn K mainGlobals "bool" = some none)
    (Z_enumerate : PySem.W.nsIn K mainGlobals "enumerate" = some none)
    (Z_int : PySem.W.nsIn K mainGlobals "int" = some none)
    (Z_isinstance : PySem.W.nsIn K mainGlobals "isinstance" = some none)
    (Z_len : PySem.W.nsIn K mainGlobals "len" = some none)
    (Z_list : PySem.W.nsIn K mainGlobals "list" = some none)
    (Z_max : PySem.W.nsIn K mainGlobals "max" = some none)
    (Z_min : PySem.W.nsIn K mainGlobals "min" = some none)
    (Z_range : PySem.W.nsIn K mainGlobals "range" = some none)
    (Z_set : PySem.W.nsIn K mainGlobals "set" = some none)
    (Z_sorted : PySem.W.nsIn K mainGlobals "sorted" = some none)
    (Z_str : PySem.W.nsIn K mainGlobals "str" = some none)
    (Z_tuple : PySem.W.nsIn K mainGlobals "tuple" = some none)
    (Z_zip : PySem.W.nsIn K mainGlobals "zip" = some none) :
    ∃ fd : FuncData, (∀ (s : Shared) (v : Value), BindsTo s fd ⟨[v], []⟩ [("_law_script", v)]) ∧ ∀ base : Heap, K.In base → base.Ns mainGlobals mg → FnOk l.prog w K mg base CX0 5 fa fd ["_law_script"] (spLaw K) := by
  have e := hfa.symm.trans (PySem.W.mg_of X G A_law)
  cases e
  let T : Txt w K mg := {
    a_close := f_close, d_close := _, F_close := fun_mk (st := s_close) L_close C_close K_close, b_close := (fun_mk (st := s_close) L_close C_close K_close).binds (ps := p_close) (fun _ _ _ _ _ _ us hl => match us, hl with | [_], _ => rfl), m_close := PySem.W.mg_of X G A_close,
    a_has_contradiction := f_has_contradiction, d_has_contradiction := _, F_has_contradiction := fun_mk (st := s_has_contradiction) L_has_contradiction C_has_contradiction K_has_contradiction, b_has_contradiction := (fun_mk (st := s_has_contradiction) L_has_contradiction C_has_contradiction K_has_contradiction).binds (ps := p_has_contradiction) (fun _ _ _ _ _ _ us hl => match us, hl with | [_], _ => rfl), m_has_contradiction := PySem.W.mg_of X G A_has_contradiction,
    a_shortened := f_shortened, d_shortened := _, F_shortened := fun_mk (st := s_shortened) L_shortened C_shortened K_shortened, b_shortened := (fun_mk (st := s_shortened) L_shortened C_shortened K_shortened).binds (ps := p_shortened) (fun _ _ _ _ _ _ us hl => match us, hl with | [_, _], _ => rfl), m_shortened := PySem.W.mg_of X G A_shortened,
    a_frozen := f_frozen, d_frozen := _, F_frozen := fun_mk (st := s_frozen) L_frozen C_frozen K_frozen, b_frozen := (fun_mk (st := s_frozen) L_frozen C_frozen K_frozen).binds (ps := p_frozen) (fun _ _ _ _ _ _ us hl => match us, hl with | [_], _ => rfl), m_frozen := PySem.W.mg_of X G A_frozen,
    a_least_mark := f_least_mark, d_least_mark := _, F_least_mark := fun_mk (st := s_least_mark) L_least_mark C_least_mark K_least_mark, b_least_mark := (fun_mk (st := s_least_mark) L_least_mark C_least_mark K_least_mark).binds (ps := p_least_mark) (fun _ _ _ _ _ _ us hl => match us, hl with | [_, _], _ => rfl), m_least_mark := PySem.W.mg_of X G A_least_mark,
    a_rounded := f_rounded, d_rounded := _, F_rounded := fun_mk (st := s_rounded) L_rounded C_rounded K_rounded, b_rounded := (fun_mk (st := s_rounded) L_rounded C_rounded K_rounded).binds (ps := p_rounded) (fun _ _ _ _ _ _ us hl => match us, hl with | [_, _, _], _ => rfl), m_rounded := PySem.W.mg_of X G A_rounded,
    a_round_box := f_round_box, d_round_box := _, F_round_box := fun_mk (st := s_round_box) L_round_box C_round_box K_round_box, b_round_box := (fun_mk (st := s_round_box) L_round_box C_round_box K_round_box).binds (ps := p_round_box) (fun _ _ _ _ _ _ us hl => match us, hl with | [_, _, _], _ => rfl), m_round_box := PySem.W.mg_of X G A_round_box,
    a_l_cell := f_l_cell, d_l_cell := _, F_l_cell := fun_mk (st := s_l_cell) L_l_cell C_l_cell K_l_cell, b_l_cell := (fun_mk (st := s_l_cell) L_l_cell C_l_cell K_l_cell).binds (ps := p_l_cell) (fun _ _ _ _ _ _ us hl => match us, hl with | [_, _], _ => rfl), m_l_cell := PySem.W.mg_of X G A_l_cell,
    a_l_source := f_l_source, d_l_source := _, F_l_source := fun_mk (st := s_l_source) L_l_source C_l_source K_l_source, b_l_source := (fun_mk (st := s_l_source) L_l_source C_l_source K_l_source).binds (ps := p_l_source) (fun _ _ _ _ _ _ us hl => match us, hl with | [_], _ => rfl), m_l_source := PySem.W.mg_of X G A_l_source,
    a_l_pick := f_l_pick, d_l_pick := _, F_l_pick := fun_mk (st := s_l_pick) L_l_pick C_l_pick K_l_pick, b_l_pick := (fun_mk (st := s_l_pick) L_l_pick C_l_pick K_l_pick).binds (ps := p_l_pick) (fun _ _ _ _ _ _ us hl => match us, hl with | [_, _], _ => rfl), m_l_pick := PySem.W.mg_of X G A_l_pick,
    a_l_one := f_l_one, d_l_one := _, F_l_one := fun_mk (st := s_l_one) L_l_one C_l_one K_l_one, b_l_one := (fun_mk (st := s_l_one) L_l_one C_l_one K_l_one).binds (ps := p_l_one) (fun _ _ _ _ _ _ us hl => match us, hl with | [_, _], _ => rfl), m_l_one := PySem.W.mg_of X G A_l_one,
    a_l_far := f_l_far, d_l_far := _, F_l_far := fun_mk (st := s_l_far) L_l_far C_l_far K_l_far, b_l_far := (fun_mk (st := s_l_far) L_l_far C_l_far K_l_far).binds (ps := p_l_far) (fun _ _ _ _ _ _ us hl => match us, hl with | [_], _ => rfl), m_l_far := PySem.W.mg_of X G A_l_far,
    a_l_ranges := f_l_ranges, d_l_ranges := _, F_l_ranges := fun_mk (st := s_l_ranges) L_l_ranges C_l_ranges K_l_ranges, b_l_ranges := (fun_mk (st := s_l_ranges) L_l_ranges C_l_ranges K_l_ranges).binds (ps := p_l_ranges) (fun _ _ _ _ _ _ us hl => match us, hl with | [_, _], _ => rfl), m_l_ranges := PySem.W.mg_of X G A_l_ranges,
    a_l_points := f_l_points, d_l_points := _, F_l_points := fun_mk (st := s_l_points) L_l_points C_l_points K_l_points, b_l_points := (fun_mk (st := s_l_points) L_l_points C_l_points K_l_points).binds (ps := p_l_points) (fun _ _ _ _ _ _ us hl => match us, hl with | [_, _], _ => rfl), m_l_points := PySem.W.mg_of X G A_l_points,
    a_l_box := f_l_box, d_l_box := _, F_l_box := fun_mk (st := s_l_box) L_l_box C_l_box K_l_box, b_l_box := (fun_mk (st := s_l_box) L_l_box C_l_box K_l_box).binds (ps := p_l_box) (fun _ _ _ _ _ _ us hl => match us, hl with | [_], _ => rfl), m_l_box := PySem.W.mg_of X G A_l_box,
    a_l_marks := f_l_marks, d_l_marks := _, F_l_marks := fun_mk (st := s_l_marks) L_l_marks C_l_marks K_l_marks, b_l_marks := (fun_mk (st := s_l_marks) L_l_marks C_l_marks K_l_marks).binds (ps := p_l_marks) (fun _ _ _ _ _ _ us hl => match us, hl with | [_, _, _], _ => rfl), m_l_marks := PySem.W.mg_of X G A_l_marks,
    a_l_closed := f_l_closed, d_l_closed := _, F_l_closed := fun_mk (st := s_l_closed) L_l_closed C_l_closed K_l_closed, b_l_closed := (fun_mk (st := s_l_closed) L_l_closed C_l_closed K_l_closed).binds (ps := p_l_closed) (fun _ _ _ _ _ _ us hl => match us, hl with | [_], _ => rfl), m_l_closed := PySem.W.mg_of X G A_l_closed,
    a_l_widest := f_l_widest, d_l_widest := _, F_l_widest := fun_mk (st := s_l_widest) L_l_widest C_l_widest K_l_widest, b_l_widest := (fun_mk (st := s_l_widest) L_l_widest C_l_widest K_l_widest).binds (ps := p_l_widest) (fun _ _ _ _ _ _ us hl => match us, hl with | [_], _ => rfl), m_l_widest := PySem.W.mg_of X G A_l_widest,
    a_l_due := f_l_due, d_l_due := _, F_l_due := fun_mk (st := s_l_due) L_l_due C_l_due K_l_due, b_l_due := (fun_mk (st := s_l_due) L_l_due C_l_due K_l_due).binds (ps := p_l_due) (fun _ _ _ _ _ _ us hl => match us, hl with | [_, _, _], _ => rfl), m_l_due := PySem.W.mg_of X G A_l_due,
    a_l_below := f_l_below, d_l_below := _, F_l_below := fun_mk (st := s_l_below) L_l_below C_l_below K_l_below, b_l_below := (fun_mk (st := s_l_below) L_l_below C_l_below K_l_below).binds (ps := p_l_below) (fun _ _ _ _ _ _ us hl => match us, hl with | [_, _], _ => rfl), m_l_below := PySem.W.mg_of X G A_l_below,
    a_l_same := f_l_same, d_l_same := _, F_l_same := fun_mk (st := s_l_same) L_l_same C_l_same K_l_same, b_l_same := (fun_mk (st := s_l_same) L_l_same C_l_same K_l_same).binds (ps := p_l_same) (fun _ _ _ _ _ _ us hl => match us, hl with | [_, _], _ => rfl), m_l_same := PySem.W.mg_of X G A_l_same,
    a_l_right := f_l_right, d_l_right := _, F_l_right := fun_mk (st := s_l_right) L_l_right C_l_right K_l_right, b_l_right := (fun_mk (st := s_l_right) L_l_right C_l_right K_l_right).binds (ps := p_l_right) (fun _ _ _ _ _ _ us hl => match us, hl with | [_, _, _], _ => rfl), m_l_right := PySem.W.mg_of X G A_l_right,
    a_law := fa, d_law := _, F_law := fun_mk (st := s_law) L_law C_law K_law, b_law := (fun_mk (st := s_law) L_law C_law K_law).binds (ps := p_law) (fun _ _ _ _ _ _ us hl => match us, hl with | [_], _ => rfl), m_law := PySem.W.mg_of X G A_law,
    z_any := PySem.W.mg_none_of X G Z_any,
    z_bool := PySem.W.mg_none_of X G Z_bool,
    z_enumerate := PySem.W.mg_none_of X G Z_enumerate,
    z_int := PySem.W.mg_none_of X G Z_int,
    z_isinstance := PySem.W.mg_none_of X G Z_isinstance,
    z_len := PySem.W.mg_none_of X G Z_len,
    z_list := PySem.W.mg_none_of X G Z_list,
    z_max := PySem.W.mg_none_of X G Z_max,
    z_min := PySem.W.mg_none_of X G Z_min,
    z_range := PySem.W.mg_none_of X G Z_range,
    z_set := PySem.W.mg_none_of X G Z_set,
    z_sorted := PySem.W.mg_none_of X G Z_sorted,
    z_str := PySem.W.mg_none_of X G Z_str,
    z_tuple := PySem.W.mg_none_of X G Z_tuple,
    z_zip := PySem.W.mg_none_of X G Z_zip }
  refine ⟨PySem.W.fnOf "law" "law" (defArgs s_law) (defBody s_law) (defScope s_law) .none kV_law dc_law pm_law an_law cd_law ct_law, fun s v => .of_eq rfl, fun base _ _ => ok_law T⟩
theorem walk {l : PySem.W.OpenLaw} {q : Program} {loose : List Str} {XP : (Str → Option Value) → Heap → Prop} {YP : World → Heap → Prop} {d : DefRec} {K : Params → PySem.W.Frag} (hn : l.most = some 63) (hdf : d.params.defaults = [])
    (hY : ∀ (w : World) (h : Heap), YP w h → (K w.params).In h)
    (F : ∀ (w : World) (mg : Str → Option Value) (fa : Addr) (h : Heap), (K w.params).In h → h.Ns mainGlobals mg → mg d.name = some (.ref fa) →
      ∃ fd : FuncData, (∀ (s : Shared) (u : Value), BindsTo s fd ⟨[u], []⟩ [("_law_script", u)]) ∧ ∀ base : Heap, (K w.params).In base → base.Ns mainGlobals mg → FnOk l.prog w (K w.params) mg base CX0 5 fa fd ["_law_script"] (spLaw (K w.params))) :
    PySem.W.WalkO q loose XP YP l.row.toRowW d [] (fun f vs => PySem.call f vs) :=
  L2.walk_of (n := 63) (k := 5) (x := "_law_script") (CX := fun _ => CX0) (sp := fun w => spLaw (K w.params)) hn (by decide) hdf ⟨rfl, by decide, by decide⟩ hY F (fun _ _ a ns hl _ hS => ⟨a, ns, rfl, hS, hl, fun _ => rfl⟩) fun _ _ _ _ _ z => z
end Mine
open PySem PySem.W PyProof.Rows
set_option maxRecDepth 100000 in
set_option maxHeartbeats 0 in
theorem PySem.Challenge.cw_neverhappens_k28_whole_rounding_is_a_clo_holds : PySem.Challenge.rw_neverhappens_k28_whole_rounding_is_a_clo.Holds := by
  w_on; o_law; k_head; (case hw => w_witness2)
  k_fill
  refine Mine.walk (l := PySem.Challenge.rw_neverhappens_k28_whole_rounding_is_a_clo) rfl rfl (fun w h Y => PySem.W.kIn_of Y) ?F
  case F =>
    intro w mg fa h KX G hmg
    refine' Mine.all_mk KX G hmg ?A_close ?L_close ?C_close ?K_close ?A_has_contradiction ?L_has_contradiction ?C_has_contradiction ?K_has_contradiction ?A_shortened ?L_shortened ?C_shortened ?K_shortened ?A_frozen ?L_frozen ?C_frozen ?K_frozen ?A_least_mark ?L_least_mark ?C_least_mark ?K_least_mark ?A_rounded ?L_rounded ?C_rounded ?K_rounded ?A_round_box ?L_round_box ?C_round_box ?K_round_box ?A_l_cell ?L_l_cell ?C_l_cell ?K_l_cell ?A_l_source ?L_l_source ?C_l_source ?K_l_source ?A_l_pick ?L_l_pick ?C_l_pick ?K_l_pick ?A_l_one ?L_l_one ?C_l_one ?K_l_one ?A_l_far ?L_l_far ?C_l_far ?K_l_far ?A_l_ranges ?L_l_ranges ?C_l_ranges ?K_l_ranges ?A_l_points ?L_l_points ?C_l_points ?K_l_points ?A_l_box ?L_l_box ?C_l_box ?K_l_box ?A_l_marks ?L_l_marks ?C_l_marks ?K_l_marks ?A_l_closed ?L_l_closed ?C_l_closed ?K_l_closed ?A_l_widest ?L_l_widest ?C_l_widest ?K_l_widest ?A_l_due ?L_l_due ?C_l_due ?K_l_due ?A_l_below ?L_l_below ?C_l_below ?K_l_below ?A_l_same ?L_l_same ?C_l_same ?K_l_same ?A_l_right ?L_l_right ?C_l_right ?K_l_right ?A_law ?L_law ?C_law ?K_law ?Z_any ?Z_bool ?Z_enumerate ?Z_int ?Z_isinstance ?Z_len ?Z_list ?Z_max ?Z_min ?Z_range ?Z_set ?Z_sorted ?Z_str ?Z_tuple ?Z_zip
    (case A_close => k_is)
    (case L_close => k_is)
    (case C_close => k_is)
    (case K_close => k_is)
    (case A_has_contradiction => k_is)
    (case L_has_contradiction => k_is)
    (case C_has_contradiction => k_is)
    (case K_has_contradiction => k_is)
    (case A_shortened => k_is)
    (case L_shortened => k_is)
    (case C_shortened => k_is)
    (case K_shortened => k_is)
    (case A_frozen => k_is)
    (case L_frozen => k_is)
    (case C_frozen => k_is)
    (case K_frozen => k_is)
    (case A_least_mark => k_is)
    (case L_least_mark => k_is)
    (case C_least_mark => k_is)
    (case K_least_mark => k_is)
    (case A_rounded => k_is)
    (case L_rounded => k_is)
    (case C_rounded => k_is)
    (case K_rounded => k_is)
    (case A_round_box => k_is)
    (case L_round_box => k_is)
    (case C_round_box => k_is)
    (case K_round_box => k_is)
    (case A_l_cell => k_is)
    (case L_l_cell => k_is)
    (case C_l_cell => k_is)
    (case K_l_cell => k_is)
    (case A_l_source => k_is)
    (case L_l_source => k_is)
    (case C_l_source => k_is)
    (case K_l_source => k_is)
    (case A_l_pick => k_is)
    (case L_l_pick => k_is)
    (case C_l_pick => k_is)
    (case K_l_pick => k_is)
    (case A_l_one => k_is)
    (case L_l_one => k_is)
    (case C_l_one => k_is)
    (case K_l_one => k_is)
    (case A_l_far => k_is)
    (case L_l_far => k_is)
    (case C_l_far => k_is)
    (case K_l_far => k_is)
    (case A_l_ranges => k_is)
    (case L_l_ranges => k_is)
    (case C_l_ranges => k_is)
    (case K_l_ranges => k_is)
    (case A_l_points => k_is)
    (case L_l_points => k_is)
    (case C_l_points => k_is)
    (case K_l_points => k_is)
    (case A_l_box => k_is)
    (case L_l_box => k_is)
    (case C_l_box => k_is)
    (case K_l_box => k_is)
    (case A_l_marks => k_is)
    (case L_l_marks => k_is)
    (case C_l_marks => k_is)
    (case K_l_marks => k_is)
    (case A_l_closed => k_is)
    (case L_l_closed => k_is)
    (case C_l_closed => k_is)
    (case K_l_closed => k_is)
    (case A_l_widest => k_is)
    (case L_l_widest => k_is)
    (case C_l_widest => k_is)
    (case K_l_widest => k_is)
    (case A_l_due => k_is)
    (case L_l_due => k_is)
    (case C_l_due => k_is)
    (case K_l_due => k_is)
    (case A_l_below => k_is)
    (case L_l_below => k_is)
    (case C_l_below => k_is)
    (case K_l_below => k_is)
    (case A_l_same => k_is)
    (case L_l_same => k_is)
    (case C_l_same => k_is)
    (case K_l_same => k_is)
    (case A_l_right => k_is)
    (case L_l_right => k_is)
    (case C_l_right => k_is)
    (case K_l_right => k_is)
    (case A_law => k_is)
    (case L_law => k_is)
    (case C_law => k_is)
    (case K_law => k_is)
    (case Z_any => k_is)
    (case Z_bool => k_is)
    (case Z_enumerate => k_is)
    (case Z_int => k_is)
    (case Z_isinstance => k_is)
    (case Z_len => k_is)
    (case Z_list => k_is)
    (case Z_max => k_is)
    (case Z_min => k_is)
    (case Z_range => k_is)
    (case Z_set => k_is)
    (case Z_sorted => k_is)
    (case Z_str => k_is)
    (case Z_tuple => k_is)
    (case Z_zip => k_is)
#print axioms PySem.Challenge.cw_neverhappens_k28_whole_rounding_is_a_clo_holds
