import PyProof.Rows.All
import Wide.All
import OpenK.AllK
import Wide.FinOn
import HandS.ForMost
import HandS.IsInst
import HandS.FStr
import HandS.Codes
import HandS.Star
import HandS.Zip
import HandS.More
import HandS.Defaults
import HandS.Rev
import HandS.Walk
import HandS.TupAny
import HandS.TupMul
import HandS.Wide
import HandS.Style
import HandS.Iter
import HandS.Conv
import KE.KTurns
import KE.GoesMore
import HandS.Set
import HandS.SetFor
import HandS.Strs
import HandS.NoneIn
import HandS.Finally
import HandS.TupMul
import PySem.Challenge.RW_neverhappens_k23_form_of
set_option Elab.async false
set_option linter.all false
set_option maxRecDepth 100000
set_option maxHeartbeats 4000000
namespace ZG
open PySem PySem.Spec PyProof.Rows L2
/-! ### zip of two rows, each a list or a tuple; the target any -/
def ItAt (t : Bool) (h : Heap) (i l : Addr) (k : Nat) : Prop := match t with
  | true => h.IsTupleIter i l k
  | false => h.IsListIter i l k
def SeqIs (t : Bool) (h : Heap) (l : Addr) (xs : Array Value) : Prop := match t with
  | true => h.IsTuple l xs
  | false => h.IsList l xs
def Sq (t : Bool) (K : PySem.W.Frag) (H : Hp) (a : Addr) (xs : List V) : Prop := match t with
  | true => SqT K H a xs
  | false => SqL K H a xs
theorem ItAt.on {t : Bool} {h h' : Heap} {i l : Addr} {k : Nat} (x : ItAt t h i l k) (e : ∀ o, h.get? i = some o → h'.get? i = some o) : ItAt t h' i l k := by
  cases t
  · exact Heap.IsListIter.at x e
  · exact Heap.IsTupleIter.at x e
theorem ItAt.get {t : Bool} {h : Heap} {i l : Addr} {k : Nat} (x : ItAt t h i l k) : ∃ o fs, h.get? i = some o ∧ o.data = .fields fs := by
  cases t <;> (obtain ⟨o, e, _, d⟩ := x; exact ⟨o, _, e, d⟩)
theorem SeqIs.on {t : Bool} {h h' : Heap} {b l : Addr} {xs : Array Value} (x : SeqIs t h l xs) (hs : Heap.ExtBut b h h') (ne : l ≠ b) : SeqIs t h' l xs := by
  cases t
  · exact Heap.IsList.extBut x hs ne
  · exact Heap.IsTuple.extBut x hs ne
theorem SeqIs.push {t : Bool} {h : Heap} {l : Addr} {xs : Array Value} (x : SeqIs t h l xs) (o : Obj) : SeqIs t (h.push o) l xs := by
  cases t
  · exact Heap.IsList.push x o
  · exact Heap.IsTuple.push x o
theorem SeqIs.lt {t : Bool} {h : Heap} {l : Addr} {xs : Array Value} (x : SeqIs t h l xs) : l < h.objs.size := by
  cases t <;> (obtain ⟨o, e, _⟩ := x; exact Heap.lt_size e)
abbrev itObj (t : Bool) (l : Addr) : Obj := { cls := .type (if t then "tuple_iterator" else "list_iterator"), data := .fields #[.ref l, .int 0 0] }
theorem itAt_new (t : Bool) {h : Heap} {i l : Addr} (e : h.get? i = some (itObj t l)) : ItAt t h i l 0 := by
  cases t <;> exact ⟨_, e, rfl, rfl⟩
section
variable {prog : Program} {w : World} {A : Around} {E : Value → Shared → Prop} {s : Shared}
theorem nextIn_item {t : Bool} {i l : Addr} {k : Nat} {xs : Array Value} {x : Value} {Q : Value → Shared → Prop} (h1 : ItAt t s.heap i l k) (h2 : SeqIs t s.heap l xs) (hx : xs[k]? = some x)
    (q : ∀ h', ItAt t h' i l (k + 1) → Heap.SameBut i s.heap h' → Q x { s with heap := h' }) : wpAny (model prog w) A (Builtin.SmallTypes.nextOf (.ref i)) Q E s := by
  cases t
  · exact wpAny_nextOf_list_item h1 h2 hx q
  · exact RZ.nextOf_tuple_item h1 h2 hx q
theorem nextIn_end {t : Bool} {i l : Addr} {k : Nat} {xs : Array Value} {Q : Value → Shared → Prop} (hh : A.handled = none) (h1 : ItAt t s.heap i l k) (h2 : SeqIs t s.heap l xs) (hx : xs[k]? = none)
    (q : ∀ h' e, Heap.ExtBut i s.heap h' → (∃ o, h'.get? e = some o ∧ o.cls = .type "StopIteration") → E (.ref e) { s with heap := h' }) : wpAny (model prog w) A (Builtin.SmallTypes.nextOf (.ref i)) Q E s := by
  cases t
  · exact wpAny_nextOf_list_end hh h1 h2 hx q
  · exact RZ.nextOf_tuple_end hh h1 h2 hx q
/-- the zip at z: f0 tells which tuple it gave out -/
abbrev ZipSt (h : Heap) (z TI TO : Addr) (f0 : Value) (f : Bool) : Prop :=
  h.get? z = some { cls := .type "zip", dict := none, data := .fields #[f0, .bool f, .bool false, .ref TI, .ref TO], slots := #[] }
def Gave (f0 : Value) : Prop := f0 = .none ∨ ∃ T : Addr, f0 = rawInt T
theorem gave_free {z TI TO : Addr} {f0 : Value} {f : Bool} {Q : Bool → Shared → Prop} (hz : ZipSt s.heap z TI TO f0 f) (g : Gave f0) (q1 : Q true s)
    (q2 : ∀ h', ZipSt h' z TI TO f0 true → Heap.SameBut z s.heap h' → Q false { s with heap := h' }) : wpAny (model prog w) A (Builtin.SmallTypes.ownedTupleIsFree (.ref z)) Q E s := by
  unfold Builtin.SmallTypes.ownedTupleIsFree
  rcases g with rfl | ⟨T, rfl⟩
  · exact wpAny_bind (wpAny_field hz rfl (x := .none) rfl (wpAny_pure q1))
  refine wpAny_bind (wpAny_field hz rfl (x := rawInt T) rfl ?_)
  show wpAny _ _ (loadIfAlive ((T : Int).toNat) >>= _) _ _ _
  rw [Int.toNat_natCast]
  have k : ∀ {Q' : Option Obj → Shared → Prop}, Q' (s.heap.get? T) s → wpAny (model prog w) A (loadIfAlive T) Q' E s := fun h => fun _ _ _ => h
  refine wpAny_bind (k ?_)
  cases s.heap.get? T with
  | none =>
    simp only [Option.isNone_none, if_true]
    exact wpAny_pure q1
  | some oT =>
    simp only [Option.isNone_some, Bool.false_eq_true, if_false]
    refine wpAny_bind (wpAny_field hz rfl (x := .bool f) rfl ?_)
    cases f with
    | true =>
      rw [if_neg (show ¬ ((Value.bool true != Value.bool true) = true) from Bool.false_ne_true)]
      exact wpAny_pure (q2 s.heap hz (Heap.SameBut.refl _ _))
    | false =>
      rw [if_pos (show (Value.bool false != Value.bool true) = true from rfl)]
      exact wpAny_bind (wpAny_setField_rec hz (by simp) fun h₁ z1 s1 => wpAny_pure (q2 h₁ z1 s1))
/-- a zip that has an item left -/
theorem zipG_item {t1 t2 : Bool} {z TI TO i1 i2 l1 l2 : Addr} {f0 : Value} {f : Bool} {k1 k2 : Nat} {xs ys : Array Value} {x y a b : Value} {Q : Option Value → Shared → Prop} (D : ZipApart z TI TO i1 i2 l1 l2)
    (hz : ZipSt s.heap z TI TO f0 f) (g : Gave f0) (hTI : IsPair s.heap TI (.ref i1) (.ref i2)) (hTO : IsPair s.heap TO a b)
    (h1 : ItAt t1 s.heap i1 l1 k1) (h2 : ItAt t2 s.heap i2 l2 k2) (hl1 : SeqIs t1 s.heap l1 xs) (hl2 : SeqIs t2 s.heap l2 ys) (hx : xs[k1]? = some x) (hy : ys[k2]? = some y)
    (hQ : ∀ h' f0' f', ZipSt h' z TI TO f0' f' → Gave f0' → (∃ a b, IsPair h' TO a b) → ItAt t1 h' i1 l1 (k1 + 1) → ItAt t2 h' i2 l2 (k2 + 1) → IsPair h' s.heap.objs.size x y → h'.objs.size = s.heap.objs.size + 1 →
      (∀ c o, c ≠ z → c ≠ TO → c ≠ i1 → c ≠ i2 → s.heap.get? c = some o → h'.get? c = some o) → Q (some (.ref s.heap.objs.size)) { s with heap := h' }) :
    wpAny (model prog w) A (pyNext (.ref z)) Q E s := by
  have hT : s.TypeIs (.ref z) "zip" := ⟨_, hz, rfl⟩
  unfold pyNext
  refine wpAny_bind (wpAny_attempt (wpAny_callSpecial?_slot (name := Str.ofString "__next__") hT F.slot_zip_next (wpAny_call_entry F.slot_zip_next hT F.entry_zip_next ?_ (F.args_zip_next_1 _))))
  show wpAny _ _ (field (.ref z) 2 >>= _) _ _ _
  refine wpAny_bind (wpAny_field hz rfl (x := .bool false) rfl ?_)
  show wpAny _ _ (field (.ref z) 3 >>= _) _ _ _
  refine wpAny_bind (wpAny_field hz rfl (x := .ref TI) rfl ?_)
  refine wpAny_bind (wpAny_seqItems hTI rfl ?_)
  refine wpAny_bind (gave_free (z := z) hz g ?free fun u1 z1 s1 => ?held)
  case free =>
    simp only [if_true]
    refine wpAny_bind (wpAny_rule ?_)
    refine wpAny_bind (wpAny_field hz rfl (x := .ref TO) rfl ?_)
    refine wpAny_bind (wpAny_setField_rec hz (by simp) fun u1 z1 s1 => ?_)
    replace z1 : ZipSt u1 z TI TO .ellipsis f := z1
    refine wpAny_bind ?_
    simp only [List.zipIdx_cons, List.zipIdx_nil, List.forIn_cons, List.forIn_nil]
    refine wpAny_bind (wpAny_bind (wpAny_onRaise ?_))
    show wpAny _ _ (Builtin.SmallTypes.nextOf (.ref i1) >>= _) _ _ _
    refine wpAny_bind (nextIn_item (h1.on fun o e => s1.extBut _ _ D.i1z e) (hl1.on s1.extBut D.l1z) hx fun u2 a2 s2 => wpAny_pure ?_)
    have p2 : IsPair u2 TO a b := s2.extBut _ _ D.TOi1 (s1.extBut _ _ D.TOz hTO)
    refine wpAny_bind (wpAny_seqItems p2 rfl ?_)
    refine wpAny_bind (wpAny_updateSeq_pair p2 fun u3 p3 s3 => ?_)
    replace p3 : IsPair u3 TO x b := p3
    refine wpAny_bind (wpAny_letGo (wpAny_pure ?_))
    refine wpAny_bind (wpAny_bind (wpAny_onRaise ?_))
    show wpAny _ _ (Builtin.SmallTypes.nextOf (.ref i2) >>= _) _ _ _
    refine wpAny_bind (nextIn_item (h2.on fun o e => s3.extBut _ _ D.TOi2.symm (s2.extBut _ _ D.i12.symm (s1.extBut _ _ D.i2z e)))
      (((hl2.on s1.extBut D.l2z).on s2.extBut D.l2i1).on s3.extBut D.l2TO) hy fun u4 a4 s4 => wpAny_pure ?_)
    have p4 : IsPair u4 TO x b := s4.extBut _ _ D.TOi2 p3
    refine wpAny_bind (wpAny_seqItems p4 rfl ?_)
    refine wpAny_bind (wpAny_updateSeq_pair p4 fun u5 p5 s5 => ?_)
    replace p5 : IsPair u5 TO x y := p5
    refine wpAny_bind (wpAny_letGo (wpAny_pure (wpAny_pure ?_)))
    refine wpAny_bind (wpAny_seqItems p5 rfl ?_)
    refine wpAny_bind (wpAny_newTuple ?_)
    have sz : u5.objs.size = s.heap.objs.size := by rw [s5.1, s4.1, s3.1, s2.1, s1.1]
    have z5 : ZipSt u5 z TI TO .ellipsis f := s5.extBut _ _ D.TOz.symm (s4.extBut _ _ D.i2z.symm (s3.extBut _ _ D.TOz.symm (s2.extBut _ _ D.i1z.symm z1)))
    have k5 : ∀ c o, c ≠ z → c ≠ TO → c ≠ i1 → c ≠ i2 → s.heap.get? c = some o → u5.get? c = some o := fun c o c1 c2 c3 c4 e =>
      s5.extBut _ _ c2 (s4.extBut _ _ c4 (s3.extBut _ _ c2 (s2.extBut _ _ c3 (s1.extBut _ _ c1 e))))
    have b1 : ItAt t1 u5 i1 l1 (k1 + 1) := a2.on fun o e => s5.extBut _ _ D.TOi1.symm (s4.extBut _ _ D.i12 (s3.extBut _ _ D.TOi1.symm e))
    have b2 : ItAt t2 u5 i2 l2 (k2 + 1) := a4.on fun o e => s5.extBut _ _ D.TOi2.symm e
    have zl : z < u5.objs.size := Heap.lt_size z5
    show wpAny _ _ (Builtin.SmallTypes.ownedTupleHandOut (.ref z) (.ref u5.objs.size) >>= _) _ _ _
    refine wpAny_bind ?_
    unfold Builtin.SmallTypes.ownedTupleHandOut
    have z6 : ZipSt (u5.push { cls := .type "tuple", data := .seq #[x, y] }) z TI TO .ellipsis f := Heap.get?_push_of_some _ z5
    refine wpAny_bind (wpAny_setField_rec z6 (by simp) fun u7 z7 s7 => ?_)
    replace z7 : ZipSt u7 z TI TO (rawInt u5.objs.size) f := z7
    refine wpAny_setField_rec z7 (by simp) fun u8 z8 s8 => ?_
    replace z8 : ZipSt u8 z TI TO (rawInt u5.objs.size) false := z8
    have up : ∀ c o, c ≠ z → u5.get? c = some o → u8.get? c = some o := fun c o c1 e => s8.extBut _ _ c1 (s7.extBut _ _ c1 (Heap.get?_push_of_some _ e))
    have t8 : IsPair u8 u5.objs.size x y := s8.extBut _ _ (Nat.ne_of_gt zl) (s7.extBut _ _ (Nat.ne_of_gt zl) (Heap.get?_push_size _ rfl))
    have n8 : u8.objs.size = u5.objs.size + 1 := by rw [s8.1, s7.1, Heap.size_push]
    rw [sz] at z8 t8 n8
    refine wpAny_pure ⟨_, rfl, wpAny_pure ?_⟩
    show Q (some (.ref u5.objs.size)) _
    rw [sz]
    exact hQ u8 _ _ z8 (.inr ⟨_, rfl⟩) ⟨_, _, up _ _ D.TOz p5⟩ (b1.on fun o e => up _ o D.i1z e) (b2.on fun o e => up _ o D.i2z e) t8 n8 fun c o c1 c2 c3 c4 e => up c o c1 (k5 c o c1 c2 c3 c4 e)
  case held =>
    simp only [Bool.false_eq_true, if_false]
    refine wpAny_bind ?_
    rw [← Array.forIn_toList]
    simp only [List.forIn_cons, List.forIn_nil]
    refine wpAny_bind (wpAny_bind (wpAny_holding ?_))
    show wpAny _ _ (Builtin.SmallTypes.nextOf (.ref i1) >>= _) _ _ _
    refine wpAny_bind (nextIn_item (s := { s with heap := u1 }) (h1.on fun o e => s1.extBut _ _ D.i1z e) (hl1.on s1.extBut D.l1z) hx fun u2 a2 s2 => wpAny_pure ?_)
    refine wpAny_pure ?_
    refine wpAny_bind (wpAny_bind (wpAny_holding ?_))
    show wpAny _ _ (Builtin.SmallTypes.nextOf (.ref i2) >>= _) _ _ _
    refine wpAny_bind (nextIn_item (s := { s with heap := u2 }) (h2.on fun o e => s2.extBut _ _ D.i12.symm (s1.extBut _ _ D.i2z e)) ((hl2.on s1.extBut D.l2z).on s2.extBut D.l2i1) hy fun u3 a3 s3 => wpAny_pure ?_)
    refine wpAny_pure (wpAny_pure ?_)
    show wpAny _ _ (newTuple [x, y] >>= _) _ _ _
    refine wpAny_bind (wpAny_newTuple ?_)
    have sz : u3.objs.size = s.heap.objs.size := by rw [s3.1, s2.1, s1.1]
    have z3 : ZipSt u3 z TI TO f0 true := s3.extBut _ _ D.i2z.symm (s2.extBut _ _ D.i1z.symm z1)
    have k3 : ∀ c o, c ≠ z → c ≠ TO → c ≠ i1 → c ≠ i2 → s.heap.get? c = some o → u3.get? c = some o := fun c o c1 _ c2 c3 e => s3.extBut _ _ c3 (s2.extBut _ _ c2 (s1.extBut _ _ c1 e))
    have b1 : ItAt t1 u3 i1 l1 (k1 + 1) := a2.on fun o e => s3.extBut _ _ D.i12 e
    refine wpAny_pure ⟨_, rfl, wpAny_pure ?_⟩
    show Q (some (.ref u3.objs.size)) _
    have hp : IsPair (u3.push { cls := .type "tuple", data := .seq #[x, y] }) u3.objs.size x y := Heap.get?_push_size _ rfl
    have n4 : (u3.push { cls := .type "tuple", data := .seq #[x, y] }).objs.size = u3.objs.size + 1 := Heap.size_push ..
    have pTO : IsPair u3 TO a b := s3.extBut _ _ D.TOi2 (s2.extBut _ _ D.TOi1 (s1.extBut _ _ D.TOz hTO))
    rw [sz] at hp n4 ⊢
    exact hQ _ _ _ (Heap.get?_push_of_some _ z3) g ⟨a, b, Heap.get?_push_of_some _ pTO⟩ (b1.on fun o e => Heap.get?_push_of_some _ e) (a3.on fun o e => Heap.get?_push_of_some _ e) hp n4 fun c o c1 c2 c3 c4 e => Heap.get?_push_of_some _ (k3 c o c1 c2 c3 c4 e)
/-- a zip that is through -/
theorem zipG_end {t1 t2 : Bool} {z TI TO i1 i2 l1 l2 : Addr} {f0 : Value} {f : Bool} {k1 k2 : Nat} {xs ys : Array Value} {a b : Value} {Q : Option Value → Shared → Prop} (hh : A.handled = none) (D : ZipApart z TI TO i1 i2 l1 l2)
    (hz : ZipSt s.heap z TI TO f0 f) (g : Gave f0) (hTI : IsPair s.heap TI (.ref i1) (.ref i2)) (hTO : IsPair s.heap TO a b)
    (h1 : ItAt t1 s.heap i1 l1 k1) (h2 : ItAt t2 s.heap i2 l2 k2) (hl1 : SeqIs t1 s.heap l1 xs) (hl2 : SeqIs t2 s.heap l2 ys) (hend : xs[k1]? = none ∨ ys[k2]? = none)
    (hQ : ∀ h', (∀ c o, c ≠ z → c ≠ TO → c ≠ i1 → c ≠ i2 → s.heap.get? c = some o → h'.get? c = some o) → Q none { s with heap := h' }) :
    wpAny (model prog w) A (pyNext (.ref z)) Q E s := by
  have hT : s.TypeIs (.ref z) "zip" := ⟨_, hz, rfl⟩
  have fin : ∀ (h' : Heap) (e : Addr), (∀ c o, c ≠ z → c ≠ TO → c ≠ i1 → c ≠ i2 → s.heap.get? c = some o → h'.get? c = some o) → (∃ o, h'.get? e = some o ∧ o.cls = .type "StopIteration") →
      wpAny (model prog w) A (isInstance (.ref e) (.type "StopIteration")) (fun v s' => v = true ∧ s' = { s with heap := h' }) E { s with heap := h' } := fun h' e _ he => by
    obtain ⟨o, ho, hc⟩ := he
    exact wpAny_isInstance (T := "StopIteration") (b := true) ⟨o, ho, hc⟩ isSubtype_stop ⟨rfl, rfl⟩
  unfold pyNext
  refine wpAny_bind (wpAny_attempt (wpAny_callSpecial?_slot (name := Str.ofString "__next__") hT F.slot_zip_next (wpAny_call_entry F.slot_zip_next hT F.entry_zip_next ?_ (F.args_zip_next_1 _))))
  show wpAny _ _ (field (.ref z) 2 >>= _) _ _ _
  refine wpAny_bind (wpAny_field hz rfl (x := .bool false) rfl ?_)
  show wpAny _ _ (field (.ref z) 3 >>= _) _ _ _
  refine wpAny_bind (wpAny_field hz rfl (x := .ref TI) rfl ?_)
  refine wpAny_bind (wpAny_seqItems hTI rfl ?_)
  refine wpAny_bind (gave_free (z := z) hz g ?free fun u1 z1 s1 => ?held)
  case free =>
    simp only [if_true]
    refine wpAny_bind (wpAny_rule ?_)
    refine wpAny_bind (wpAny_field hz rfl (x := .ref TO) rfl ?_)
    refine wpAny_bind (wpAny_setField_rec hz (by simp) fun u1 z1 s1 => ?_)
    replace z1 : ZipSt u1 z TI TO .ellipsis f := z1
    refine wpAny_bind ?_
    simp only [List.zipIdx_cons, List.zipIdx_nil, List.forIn_cons, List.forIn_nil]
    refine wpAny_bind (wpAny_bind (wpAny_onRaise ?_))
    show wpAny _ _ (Builtin.SmallTypes.nextOf (.ref i1) >>= _) _ _ _
    cases hx : xs[k1]? with
    | none =>
      refine wpAny_bind (nextIn_end hh (h1.on fun o e => s1.extBut _ _ D.i1z e) (hl1.on s1.extBut D.l1z) hx fun u2 e s2 he => ?_)
      obtain ⟨oe, hoe, hce⟩ := he
      have z2 : ZipSt u2 z TI TO .ellipsis f := s2 _ _ D.i1z.symm z1
      have hez : e ≠ z := fun x => by subst x; rw [z2] at hoe; cases hoe; simp at hce
      refine wpAny_setField_rec z2 (by simp) fun u3 _ s3 => ?_
      refine wpAny_bind (wpAny_isInstance (T := "StopIteration") (b := true) ⟨oe, s3.extBut _ _ hez hoe, hce⟩ isSubtype_stop ?_)
      exact wpAny_pure (hQ u3 fun c o c1 _ c3 _ x => s3.extBut _ _ c1 (s2 _ _ c3 (s1.extBut _ _ c1 x)))
    | some x =>
      have hy : ys[k2]? = none := by rcases hend with h | h; rw [hx] at h; cases h; exact h
      refine wpAny_bind (nextIn_item (h1.on fun o e => s1.extBut _ _ D.i1z e) (hl1.on s1.extBut D.l1z) hx fun u2 a2 s2 => wpAny_pure ?_)
      have p2 : IsPair u2 TO a b := s2.extBut _ _ D.TOi1 (s1.extBut _ _ D.TOz hTO)
      refine wpAny_bind (wpAny_seqItems p2 rfl ?_)
      refine wpAny_bind (wpAny_updateSeq_pair p2 fun u3 p3 s3 => ?_)
      refine wpAny_bind (wpAny_letGo (wpAny_pure ?_))
      refine wpAny_bind (wpAny_bind (wpAny_onRaise ?_))
      show wpAny _ _ (Builtin.SmallTypes.nextOf (.ref i2) >>= _) _ _ _
      refine wpAny_bind (nextIn_end hh (h2.on fun o e => s3.extBut _ _ D.TOi2.symm (s2.extBut _ _ D.i12.symm (s1.extBut _ _ D.i2z e)))
        (((hl2.on s1.extBut D.l2z).on s2.extBut D.l2i1).on s3.extBut D.l2TO) hy fun u4 e s4 he => ?_)
      obtain ⟨oe, hoe, hce⟩ := he
      have z4 : ZipSt u4 z TI TO .ellipsis f := s4 _ _ D.i2z.symm (s3.extBut _ _ D.TOz.symm (s2.extBut _ _ D.i1z.symm z1))
      have hez : e ≠ z := fun x => by subst x; rw [z4] at hoe; cases hoe; simp at hce
      refine wpAny_setField_rec z4 (by simp) fun u5 _ s5 => ?_
      refine wpAny_bind (wpAny_isInstance (T := "StopIteration") (b := true) ⟨oe, s5.extBut _ _ hez hoe, hce⟩ isSubtype_stop ?_)
      exact wpAny_pure (hQ u5 fun c o c1 c2 c3 c4 x => s5.extBut _ _ c1 (s4 _ _ c4 (s3.extBut _ _ c2 (s2.extBut _ _ c3 (s1.extBut _ _ c1 x)))))
  case held =>
    simp only [Bool.false_eq_true, if_false]
    refine wpAny_bind ?_
    rw [← Array.forIn_toList]
    simp only [List.forIn_cons, List.forIn_nil]
    refine wpAny_bind (wpAny_bind (wpAny_holding ?_))
    show wpAny _ _ (Builtin.SmallTypes.nextOf (.ref i1) >>= _) _ _ _
    cases hx : xs[k1]? with
    | none =>
      refine wpAny_bind (nextIn_end (s := { s with heap := u1 }) hh (h1.on fun o e => s1.extBut _ _ D.i1z e) (hl1.on s1.extBut D.l1z) hx fun u2 e s2 he => ?_)
      obtain ⟨oe, hoe, hce⟩ := he
      refine wpAny_bind (wpAny_isInstance (T := "StopIteration") (b := true) ⟨oe, hoe, hce⟩ isSubtype_stop ?_)
      exact wpAny_pure (hQ u2 fun c o c1 _ c3 _ x => s2 _ _ c3 (s1.extBut _ _ c1 x))
    | some x =>
      have hy : ys[k2]? = none := by rcases hend with h | h; rw [hx] at h; cases h; exact h
      refine wpAny_bind (nextIn_item (s := { s with heap := u1 }) (h1.on fun o e => s1.extBut _ _ D.i1z e) (hl1.on s1.extBut D.l1z) hx fun u2 a2 s2 => wpAny_pure ?_)
      refine wpAny_pure ?_
      refine wpAny_bind (wpAny_bind (wpAny_holding ?_))
      show wpAny _ _ (Builtin.SmallTypes.nextOf (.ref i2) >>= _) _ _ _
      refine wpAny_bind (nextIn_end (s := { s with heap := u2 }) hh (h2.on fun o e => s2.extBut _ _ D.i12.symm (s1.extBut _ _ D.i2z e)) ((hl2.on s1.extBut D.l2z).on s2.extBut D.l2i1) hy fun u3 e s3 he => ?_)
      obtain ⟨oe, hoe, hce⟩ := he
      refine wpAny_bind (wpAny_isInstance (T := "StopIteration") (b := true) ⟨oe, hoe, hce⟩ isSubtype_stop ?_)
      exact wpAny_pure (hQ u3 fun c o c1 _ c3 c4 x => s3 _ _ c4 (s2.extBut _ _ c3 (s1.extBut _ _ c1 x)))
/-- what is done with the tuple that it gave out ahead of a target -/
theorem goG {tg : Expr} {z TI TO T : Addr} {f0 : Value} {f : Bool} {Q : Unit → Shared → Prop} (hz : ZipSt s.heap z TI TO f0 f) (g : Gave f0)
    (hQ : ∀ h' f0', ZipSt h' z TI TO f0' f → Gave f0' → Heap.SameBut z s.heap h' → Q () { s with heap := h' }) : wpAny (model prog w) A (letOwnedTupleGo tg (.ref z) (.ref T)) Q E s := by
  have q0 : Q () s := hQ s.heap f0 hz g (Heap.SameBut.refl _ _)
  unfold letOwnedTupleGo
  cases tg <;> first
    | exact wpAny_pure q0
    | (refine wpAny_bind (wpAny_load hz ?_)
       show wpAny _ _ (if (["enumerate", "zip", "dict_itemiterator", "dict_reverseitemiterator", "odict_iterator", "itertools.zip_longest", "itertools.pairwise"].contains "zip" && (#[f0, .bool f, .bool false, .ref TI, .ref TO] : Array Value)[0]? == some (rawInt T)) = true then _ else _) Q E s
       split
       · refine wpAny_bind (wpAny_rule ?_)
         show wpAny _ _ (setField (.ref z) 0 .none) Q E s
         exact wpAny_setField_rec hz (by simp) fun h' z' s' => hQ h' .none z' (.inl rfl) s'
       · exact wpAny_pure q0)
abbrev zG1 (t : Bool) (h : Heap) (l1 : Addr) : Heap := h.push (itObj t l1)
abbrev zG2 (t1 t2 : Bool) (h : Heap) (l1 l2 : Addr) : Heap := (zG1 t1 h l1).push (itObj t2 l2)
abbrev zG3 (t1 t2 : Bool) (h : Heap) (l1 l2 : Addr) : Heap := (zG2 t1 t2 h l1 l2).push { cls := .type "tuple", data := .seq #[.ref h.objs.size, .ref (zG1 t1 h l1).objs.size] }
abbrev zG4 (t1 t2 : Bool) (h : Heap) (l1 l2 : Addr) : Heap := (zG3 t1 t2 h l1 l2).push { cls := .type "tuple", data := .seq #[.none, .none] }
abbrev zG5 (t1 t2 : Bool) (h : Heap) (l1 l2 : Addr) : Heap := (zG4 t1 t2 h l1 l2).push { cls := .type "zip", data := .fields #[.none, .bool false, .bool false, .ref (zG2 t1 t2 h l1 l2).objs.size, .ref (zG3 t1 t2 h l1 l2).objs.size] }
theorem iterG {t : Bool} {l : Addr} {xs : Array Value} {Q : Value → Shared → Prop} (hl : SeqIs t s.heap l xs) (q : Q (.ref s.heap.objs.size) { s with heap := s.heap.push (itObj t l) }) : wpAny (model prog w) A (pyIter (.ref l)) Q E s := by
  cases t
  · exact wpAny_pyIter_list hl q
  · exact wpAny_pyIter_tuple hl q
end
theorem meets_zipG (t1 t2 : Bool) (l1 l2 : Addr) (xs ys : Array Value) :
    Meets (Builtin.«zip.__new__» ⟨[.type "zip", .ref l1, .ref l2], []⟩) (fun _ R s => SeqIs t1 s.heap l1 xs ∧ SeqIs t2 s.heap l2 ys ∧
      R (.ok (.ret (.ref (zG4 t1 t2 s.heap l1 l2).objs.size))) { s with heap := zG5 t1 t2 s.heap l1 l2 }) :=
  .of_wp fun prog w A R s h => by
    obtain ⟨hp, g, d, tk, os⟩ := s
    obtain ⟨hl1, hl2, h⟩ := h
    have hsub := sub_zip
    have q1 : SeqIs t1 (Shared.heap ⟨hp, g, d, tk, os⟩) l1 xs := hl1
    have q2 : SeqIs t2 (Shared.heap ⟨hp.push (itObj t1 l1), g, d, tk, os⟩) l2 ys := SeqIs.push hl2 _
    wp_walk using iterG q1, iterG q2
    exact ⟨_, rfl, h⟩
theorem call_zipG {prog : Program} {w : World} {A : Around} {E : Value → Shared → Prop} {s : Shared} {t1 t2 : Bool} {l1 l2 : Addr} {xs ys : Array Value} {Q : Value → Shared → Prop} (hl1 : SeqIs t1 s.heap l1 xs) (hl2 : SeqIs t2 s.heap l2 ys)
    (h : ∀ h', ZipSt h' (s.heap.objs.size + 4) (s.heap.objs.size + 2) (s.heap.objs.size + 3) .none false → IsPair h' (s.heap.objs.size + 2) (.ref s.heap.objs.size) (.ref (s.heap.objs.size + 1)) →
      IsPair h' (s.heap.objs.size + 3) .none .none → ItAt t1 h' s.heap.objs.size l1 0 → ItAt t2 h' (s.heap.objs.size + 1) l2 0 →
      (∀ c o, s.heap.get? c = some o → h'.get? c = some o) → Q (.ref (s.heap.objs.size + 4)) { s with heap := h' }) :
    wpAny (model prog w) A (call (.type "zip") [.ref l1, .ref l2]) Q E s := by
  refine callType_new F.called_zip (by decide) (F.typeCall_zip_2 _ _) (F.newCall_zip_2 _ _) (fun obj => F.args_object_init_3 obj _ _) F.entry_zip_new (meets_zipG t1 t2 l1 l2 xs ys) ⟨hl1, hl2, ?_⟩
  have z1 : (zG1 t1 s.heap l1).objs.size = s.heap.objs.size + 1 := Heap.size_push ..
  have z2 : (zG2 t1 t2 s.heap l1 l2).objs.size = s.heap.objs.size + 2 := by rw [Heap.size_push, z1]
  have z3 : (zG3 t1 t2 s.heap l1 l2).objs.size = s.heap.objs.size + 3 := by rw [Heap.size_push, z2]
  have z4 : (zG4 t1 t2 s.heap l1 l2).objs.size = s.heap.objs.size + 4 := by rw [Heap.size_push, z3]
  have g5 : (zG5 t1 t2 s.heap l1 l2).get? (zG4 t1 t2 s.heap l1 l2).objs.size = some _ := Heap.get?_push_size _ rfl
  have g4 : (zG5 t1 t2 s.heap l1 l2).get? (zG3 t1 t2 s.heap l1 l2).objs.size = some _ := Heap.get?_push_of_some _ (Heap.get?_push_size _ rfl)
  have g3 : (zG5 t1 t2 s.heap l1 l2).get? (zG2 t1 t2 s.heap l1 l2).objs.size = some _ := Heap.get?_push_of_some _ (Heap.get?_push_of_some _ (Heap.get?_push_size _ rfl))
  have g2 : (zG5 t1 t2 s.heap l1 l2).get? (zG1 t1 s.heap l1).objs.size = some (itObj t2 l2) := Heap.get?_push_of_some _ (Heap.get?_push_of_some _ (Heap.get?_push_of_some _ (Heap.get?_push_size _ (by cases t2 <;> rfl))))
  have g1 : (zG5 t1 t2 s.heap l1 l2).get? s.heap.objs.size = some (itObj t1 l1) := Heap.get?_push_of_some _ (Heap.get?_push_of_some _ (Heap.get?_push_of_some _ (Heap.get?_push_of_some _ (Heap.get?_push_size _ (by cases t1 <;> rfl)))))
  show _ ∧ _
  rw [z2, z3, z4] at g5
  rw [z1, z2] at g3
  rw [z3] at g4
  rw [z1] at g2
  rw [z4]
  exact ⟨⟨_, g5, rfl⟩, h _ g5 g3 g4 (itAt_new t1 g1) (itAt_new t2 g2) fun c o x =>
    Heap.get?_push_of_some _ (Heap.get?_push_of_some _ (Heap.get?_push_of_some _ (Heap.get?_push_of_some _ (Heap.get?_push_of_some _ x))))⟩
theorem Sq.at {X : Cx} {pins : List (Addr × Obj)} {σ : L2.St} {H : Hp} {s : Shared} {t : Bool} {a : Addr} {xs : List V} (I : Inv X pins σ H s) (h : Sq t X.K H a xs) : ∃ its : List Value, Vals xs its ∧ SeqIs t s.heap a its.toArray := by
  cases t
  · obtain ⟨its, r, p, _⟩ := I.list h
    exact ⟨its, r, p.isList⟩
  · obtain ⟨its, r, p, _⟩ := I.tuple h
    exact ⟨its, r, p⟩
theorem Sq.inj {X : Cx} {pins : List (Addr × Obj)} {σ : L2.St} {H : Hp} {s : Shared} {t : Bool} {a : Addr} {xs ys : List V} (I : Inv X pins σ H s) (h : Sq t X.K H a xs) (h' : Sq t X.K H a ys) : xs = ys := by
  cases t
  · exact I.list_inj h h'
  · exact I.tuple_inj h h'
/-- the rows at a and b as they stand at each turn, the items in new pairs -/
def ItzG (K : PySem.W.Frag) (t1 t2 : Bool) (a b : Addr) : It :=
  ⟨fun i H => ∃ (xs ys : List V) (x y : V), Sq t1 K H a xs ∧ Sq t2 K H b ys ∧ xs[i]? = some x ∧ ys[i]? = some y,
    fun i H v H' => ∃ T x y, v = .ref T ∧ H T = none ∧ H' = upd H T (.tup [x, y]) ∧ (∀ xs, Sq t1 K H a xs → xs[i]? = some x) ∧ ∀ ys, Sq t2 K H b ys → ys[i]? = some y,
    fun i H => ∃ xs ys : List V, Sq t1 K H a xs ∧ Sq t2 K H b ys ∧ (xs.length ≤ i ∨ ys.length ≤ i)⟩
theorem turn_zipG {P : Program} {w : World} {K : PySem.W.Frag} {tg : Expr} {t1 t2 : Bool} {a b z TI TO i1 i2 : Addr} (D : ZipApart z TI TO i1 i2 a b) :
    Turn P w K tg (ItzG K t1 t2 a b) [z, TI, TO, i1, i2] z (fun i h => (∃ f0 f, ZipSt h z TI TO f0 f ∧ Gave f0) ∧ IsPair h TI (.ref i1) (.ref i2) ∧ (∃ x y, IsPair h TO x y) ∧ ItAt t1 h i1 a i ∧ ItAt t2 h i2 b i) where
  mem := by simp
  obj := fun i h st c hc => by
    obtain ⟨⟨f0, f, hz, _⟩, hTI, ⟨x, y, hTO⟩, h1, h2⟩ := st
    obtain ⟨o1, fs1, e1, d1⟩ := h1.get
    obtain ⟨o2, fs2, e2, d2⟩ := h2.get
    have e' : c = z ∨ c = TI ∨ c = TO ∨ c = i1 ∨ c = i2 := by simpa using hc
    rcases e' with q | q | q | q | q
    · rw [q]; exact ⟨_, hz, fun v q => nomatch q⟩
    · rw [q]; exact ⟨_, hTI, fun v q => nomatch q⟩
    · rw [q]; exact ⟨_, hTO, fun v q => nomatch q⟩
    · rw [q]; exact ⟨o1, e1, fun v q => by rw [d1] at q; cases q⟩
    · rw [q]; exact ⟨o2, e2, fun v q => by rw [d2] at q; cases q⟩
  keep := fun i h h' st k => by
    obtain ⟨⟨f0, f, hz, g⟩, hTI, ⟨x, y, hTO⟩, h1, h2⟩ := st
    exact ⟨⟨f0, f, k z (by simp) _ hz, g⟩, k TI (by simp) _ hTI, ⟨x, y, k TO (by simp) _ hTO⟩, h1.on fun o q => k i1 (by simp) o q, h2.on fun o q => k i2 (by simp) o q⟩
  item := by
    intro X hP hw hK hc i pins s σ H E I hf st hg
    subst hP hw hK
    obtain ⟨⟨f0, f, hz, g⟩, hTI, ⟨x0, y0, hTO⟩, h1, h2⟩ := st
    obtain ⟨xs, ys, x, y, hqx, hqy, hx, hy⟩ := hg
    obtain ⟨its, rv, p⟩ := hqx.at I
    obtain ⟨its2, rv2, p2⟩ := hqy.at I
    obtain ⟨u, hu, ru⟩ := rv.get hx
    obtain ⟨u2, hu2, ru2⟩ := rv2.get hy
    have hzl : z < s.heap.objs.size := Heap.lt_size hz
    refine zipG_item D hz g hTI hTO h1 h2 p p2 (x := u) (y := u2) (by simpa using hu) (by simpa using hu2) fun h' f0' f' z' g' TO' h1' h2' hT hsz hk => ?_
    refine ⟨_, rfl, goG (s := { s with heap := h' }) z' g' fun h'' f0'' z'' g'' sb => ?_⟩
    have hT2 : h''.get? s.heap.objs.size = some { cls := .type "tuple", data := .seq #[u, u2] } := (sb.2 _ (Nat.ne_of_gt hzl)).trans hT
    have new : ObjOk X.prog X.w (upd H s.heap.objs.size (.tup [x, y])) h'' s.heap.objs.size (.tup [x, y]) :=
      ⟨by show 2 ≤ sizeLine; decide, [u, u2], .cons ru (.cons ru2 .nil), ⟨_, hT2, rfl, _, rfl⟩⟩
    have I1 : Inv X pins σ (upd H s.heap.objs.size (.tup [x, y])) { s with heap := h'' } :=
      I.turnedNew (t' := s.toks) (ch := [z, TI, TO, i1, i2]) (fun c o hb q => (sb.2 c (fun q' => hb (by simp [q']))).trans (hk c o (fun q' => hb (by simp [q'])) (fun q' => hb (by simp [q'])) (fun q' => hb (by simp [q'])) (fun q' => hb (by simp [q'])) q)) hf (Nat.le_refl _) new
    have TI' : IsPair h' TI (.ref i1) (.ref i2) := hk _ _ D.TIz D.TITO D.TIi1 D.TIi2 hTI
    obtain ⟨x1, y1, TO'⟩ := TO'
    refine ⟨.ref s.heap.objs.size, _, I1, rfl, ⟨_, x, y, rfl, I.hok.fresh (Nat.le_refl _), rfl, fun l hl => by rw [hl.inj I hqx]; exact hx, fun l hl => by rw [hl.inj I hqy]; exact hy⟩, ⟨⟨_, _, z'', g''⟩, ?_, ⟨x1, y1, ?_⟩, ?_, ?_⟩, fun c hcm => ?_⟩
    · exact (sb.2 _ D.TIz).trans TI'
    · exact (sb.2 _ D.TOz).trans TO'
    · exact h1'.on fun o q => (sb.2 _ D.i1z).trans q
    · exact h2'.on fun o q => (sb.2 _ D.i2z).trans q
    · have hlt : c < s.heap.objs.size := by
        obtain ⟨o1, _, e1, _⟩ := h1.get
        obtain ⟨o2, _, e2, _⟩ := h2.get
        have e' : c = z ∨ c = TI ∨ c = TO ∨ c = i1 ∨ c = i2 := by simpa using hcm
        rcases e' with q | q | q | q | q
        · rw [q]; exact hzl
        · rw [q]; exact Heap.lt_size hTI
        · rw [q]; exact Heap.lt_size hTO
        · rw [q]; exact Heap.lt_size e1
        · rw [q]; exact Heap.lt_size e2
      rw [upd_ne (Nat.ne_of_lt hlt)]
      exact (hf c hcm).1
  done := by
    intro X hP hw hK hc i pins s σ H E I hf st hg
    subst hP hw hK
    obtain ⟨⟨f0, f, hz, g⟩, hTI, ⟨x0, y0, hTO⟩, h1, h2⟩ := st
    obtain ⟨xs, ys, hqx, hqy, hend⟩ := hg
    obtain ⟨its, rv, p⟩ := hqx.at I
    obtain ⟨its2, rv2, p2⟩ := hqy.at I
    have l1 := rv.length
    have l2 := rv2.length
    have he : its.toArray[i]? = none ∨ its2.toArray[i]? = none := by
      rcases hend with q | q
      · exact .inl (by simp; omega)
      · exact .inr (by simp; omega)
    exact zipG_end (I.ok.hd hc) D hz g hTI hTO h1 h2 p p2 he fun h' hk => ⟨rfl, I.turnedL (t' := s.toks) (ch := [z, TI, TO, i1, i2]) (fun c o hb q =>
      hk c o (fun q' => hb (by simp [q'])) (fun q' => hb (by simp [q'])) (fun q' => hb (by simp [q'])) (fun q' => hb (by simp [q'])) q) hf⟩
  self := fun A i s Q E st h => by
    obtain ⟨⟨f0, f, hz, g⟩, _⟩ := st
    have hT : s.TypeIs (.ref z) "zip" := ⟨_, hz, rfl⟩
    refine wpAny_pyIter_slot hT F.slot_zip_iter (wpAny_call_entry F.slot_zip_iter hT F.entry_zip_iter ?_ (F.args_zip_iter_1 _))
    show wpAny _ _ (ret (.ref z)) _ _ s
    exact wpAny_pure ⟨_, rfl, "zip", _, hT, F.slot_zip_next.lookup, h⟩
def iZipG (K : PySem.W.Frag) (ta : TA) : TI := fun σ H R => ta σ H fun vs H1 => ∃ (t1 t2 : Bool) (a b : Addr) (xs ys : List V), vs = [.ref a, .ref b] ∧ Sq t1 K H1 a xs ∧ Sq t2 K H1 b ys ∧ R (ItzG K t1 t2 a b) H1
theorem pi_zipG {X : Cx} {tg e e2 : Expr} {ta : TA} {p pos : Pos} (hg : Gl X "zip") (hm : X.mg "zip" = none) (ha : PA X [e, e2] ta)
    (hs : starEach [e, e2] X.env = (false, eval e X.env) :: starEach [e2] X.env := by rfl) (hpl : (backTo pos (starEach [e2] X.env)).any (·.1) = false := by rfl) :
    PI X tg (.Call (.Name "zip" p) [e, e2] [] pos) (iZipG X.K ta) := by
  refine ⟨fun pins s σ H R I h => ?_⟩
  refine Call_ (ld_blt I hg hm PyProof.Rows.boot_zip (PyProof.Rows.callWith_type1 (thn (ha.run pos pins s σ H _ I h) fun us s1 ⟨vs, H1, I1, r1, q1⟩ => ?_) hs hpl))
  obtain ⟨t1, t2, a, b, xs, ys, ex, hqx, hqy, q⟩ := q1
  subst ex
  cases r1 with
  | cons r rr =>
    cases rr with
    | cons r' rr =>
      cases rr
      cases r
      cases r'
      obtain ⟨its, rv, p1⟩ := hqx.at I1
      obtain ⟨its2, rv2, p2⟩ := hqy.at I1
      refine call_zipG p1 p2 fun h' hz hTI hTO h1 h2 hk => ?_
      have hT : Shared.TypeIs { s1 with heap := h' } (.ref (s1.heap.objs.size + 4)) "zip" := ⟨_, hz, rfl⟩
      refine wpAny_pyIter_slot hT F.slot_zip_iter (wpAny_call_entry F.slot_zip_iter hT F.entry_zip_iter ?_ (F.args_zip_iter_1 _))
      show wpAny _ _ (ret (.ref _)) _ _ _
      refine wpAny_pure ⟨_, rfl, "zip", _, hT, F.slot_zip_next.lookup, ?_⟩
      have I2 : Inv X pins σ H1 { s1 with heap := h' } := I1.kept (t' := s1.toks) hk
      refine ⟨s1.heap.objs.size + 4, [s1.heap.objs.size + 4, s1.heap.objs.size + 2, s1.heap.objs.size + 3, s1.heap.objs.size, s1.heap.objs.size + 1], _, _, H1, rfl, I2, turn_zipG (PySem.W.ktu_apart s1.heap.objs.size a b p1.lt p2.lt), ⟨⟨_, _, hz, .inl rfl⟩, hTI, ⟨_, _, hTO⟩, h1, h2⟩, fun c hcm => ?_, q⟩
      have e' : c = s1.heap.objs.size + 4 ∨ c = s1.heap.objs.size + 2 ∨ c = s1.heap.objs.size + 3 ∨ c = s1.heap.objs.size ∨ c = s1.heap.objs.size + 1 := by simpa using hcm
      have hle : s1.heap.objs.size ≤ c := by
        rcases e' with z | z | z | z | z <;> (rw [z]; omega)
      exact I1.fpOk hle (I1.hok.fresh hle)
theorem walk_zipG {K : PySem.W.Frag} {t1 t2 : Bool} {a b : Addr} {xs ys : List V} {n : Nat} (hn : n = min xs.length ys.length) : Walk (ItzG K t1 t2 a b) n (fun H => Sq t1 K H a xs ∧ Sq t2 K H b ys) (YPair (fun i => xs[i]?) (fun i => ys[i]?)) := by
  subst hn
  refine ⟨fun i _ hi q => ?_, fun _ q => ⟨xs, ys, q.1, q.2, by omega⟩, fun i H v H' _ q y => ?_⟩
  · have h1 : i < xs.length := by omega
    have h2 : i < ys.length := by omega
    exact ⟨xs, ys, xs[i], ys[i], q.1, q.2, by simp [h1], by simp [h2]⟩
  · obtain ⟨T, x, z, h1, h2, h3, h4, h5⟩ := y
    exact ⟨T, x, z, h1, h2, h3, h4 xs q.1, h5 ys q.2⟩
end ZG
namespace EnT
open PySem PySem.Spec PyProof.Rows L2
/-! ### enumerate over a tuple -/
theorem meets_enumT (l : Addr) (items : Array Value) :
    Meets (Builtin.«enumerate.__new__» ⟨[.type "enumerate", .ref l], []⟩) (fun _ R s => s.heap.IsTuple l items ∧
      R (.ok (.ret (.ref (s.heap.push { cls := .type "tuple_iterator", data := .fields #[.ref l, .int 0 0] }).objs.size)))
        { s with heap := (s.heap.push { cls := .type "tuple_iterator", data := .fields #[.ref l, .int 0 0] }).push { cls := .type "enumerate", data := .fields #[.none, .bool false, .ref s.heap.objs.size, rawInt 0, .none, .none] } }) :=
  .of_wp fun prog w A R s h => by
    obtain ⟨hp, g, d, tk, os⟩ := s; obtain ⟨hl, h⟩ := h
    have hsub := sub_enumerate
    have q1 : ∀ {A' : Around} {E : Value → Shared → Prop} {Q : Value → Shared → Prop}, Q (.ref hp.objs.size) ⟨hp.push { cls := .type "tuple_iterator", data := .fields #[.ref l, .int 0 0] }, g, d, tk, os⟩ → wpAny (model prog w) A' (pyIter (.ref l)) Q E ⟨hp, g, d, tk, os⟩ :=
      fun q => wpAny_pyIter_tuple (s := ⟨hp, g, d, tk, os⟩) hl q
    wp_walk using q1
    refine wpAny_stack_any fun st => wpAny_pure ?_
    split
    · rename_i c _ _ _ _ _
      cases (c == Value.type "enumerate")
      · wp_walk using q1
        exact ⟨_, rfl, h⟩
      · wp_walk using q1
        exact ⟨_, rfl, h⟩
    · wp_walk using q1
      exact ⟨_, rfl, h⟩
theorem call_enumT {prog : Program} {w : World} {A : Around} {E : Value → Shared → Prop} {s : Shared} {l : Addr} {items : Array Value} {Q : Value → Shared → Prop} (hL : s.heap.IsTuple l items)
    (h : ∀ h', IsEnum h' (s.heap.objs.size + 1) s.heap.objs.size 0 .none → h'.IsTupleIter s.heap.objs.size l 0 → h'.objs.size = s.heap.objs.size + 2 →
      (∀ b o, s.heap.get? b = some o → h'.get? b = some o) → Q (.ref (s.heap.objs.size + 1)) { s with heap := h' }) :
    wpAny (model prog w) A (call (.type "enumerate") [.ref l]) Q E s := by
  refine callType_new F.called_enumerate (by decide) (F.typeCall_enumerate_1 _) (F.newCall_enumerate_1 _) (fun obj => F.args_object_init_2 obj _) F.entry_enumerate_new
    (meets_enumT l items) ⟨hL, ?_⟩
  have hz : (s.heap.push { cls := .type "tuple_iterator", data := .fields #[.ref l, .int 0 0] }).objs.size = s.heap.objs.size + 1 := Heap.size_push ..
  show _ ∧ _
  rw [hz]
  have he : IsEnum ((s.heap.push { cls := .type "tuple_iterator", data := .fields #[.ref l, .int 0 0] }).push
      { cls := .type "enumerate", data := .fields #[.none, .bool false, .ref s.heap.objs.size, rawInt 0, .none, .none] }) (s.heap.objs.size + 1) s.heap.objs.size 0 .none := by
    have := Heap.get?_push_size (s.heap.push { cls := .type "tuple_iterator", data := .fields #[.ref l, .int 0 0] })
      (o := { cls := .type "enumerate", data := .fields #[.none, .bool false, .ref s.heap.objs.size, rawInt 0, .none, .none] }) rfl
    rw [hz] at this; exact this
  refine ⟨⟨_, he, rfl⟩, h _ he ⟨_, Heap.get?_push_of_some _ (Heap.get?_push_size _ rfl), rfl, rfl⟩ (by rw [Heap.size_push, hz]) fun b o x => Heap.get?_push_of_some _ (Heap.get?_push_of_some _ x)⟩
/-- the tuple at a as it stands at each turn, each item in a new pair -/
def IteT (K : PySem.W.Frag) (a : Addr) : It :=
  ⟨fun i H => ∃ (xs : List V) (x : V), SqT K H a xs ∧ xs[i]? = some x, fun i H v H' => ∃ T x, v = .ref T ∧ H T = none ∧ H' = upd H T (.tup [.int (i : Nat), x]) ∧ ∀ xs, SqT K H a xs → xs[i]? = some x, fun i H => ∃ xs : List V, SqT K H a xs ∧ xs.length ≤ i⟩
theorem enumT_end {prog : Program} {w : World} {A : Around} {E : Value → Shared → Prop} {s : Shared} {e it t : Addr} {i : Nat} {items : Array Value} {old : Value} {Q : Option Value → Shared → Prop} (hh : A.handled = none)
    (he : IsEnum s.heap e it i old) (hit : s.heap.IsTupleIter it t i) (ht : s.heap.IsTuple t items) (hx : items[i]? = none)
    (hQ : ∀ h', Heap.ExtBut it s.heap h' → Q none { s with heap := h' }) : wpAny (model prog w) A (pyNext (.ref e)) Q E s := by
  have hT : s.TypeIs (.ref e) "enumerate" := ⟨_, he, rfl⟩
  unfold pyNext
  refine wpAny_bind (wpAny_attempt (wpAny_callSpecial?_slot (name := Str.ofString "__next__") hT F.slot_enumerate_next
    (wpAny_call_entry F.slot_enumerate_next hT F.entry_enumerate_next ?_ (F.args_enumerate_next_1 _))))
  show wpAny _ _ (field (.ref e) 2 >>= _) _ _ _
  refine wpAny_bind (wpAny_field he rfl (x := .ref it) rfl ?_)
  refine wpAny_bind (wpAny_nextOf_tuple_end (A := A.in1) hh hit ht hx fun h' x he' hx' => ?_)
  obtain ⟨o, ho, hc⟩ := hx'
  refine wpAny_bind (wpAny_isInstance (T := "StopIteration") (b := true) ⟨o, ho, hc⟩ isSubtype_stop ?_)
  exact wpAny_pure (hQ _ he')
theorem turn_enumT {P : Program} {w : World} {K : PySem.W.Frag} {elts : List Expr} {kk : Nat} {tpos : Pos} (a e it : Addr) :
    Turn P w K (.Tuple elts kk tpos) (IteT K a) [e, it] e (fun i h => (∃ old, IsEnum h e it ((i : Nat) : Int) old) ∧ h.IsTupleIter it a i ∧ e ≠ it) where
  mem := by simp
  obj := fun i h st b hb => by
    obtain ⟨⟨old, he⟩, ⟨o, ho, hc, hd⟩, _⟩ := st
    have e' : b = e ∨ b = it := by simpa using hb
    rcases e' with z | z
    · rw [z]; exact ⟨_, he, fun v q => nomatch q⟩
    · rw [z]; exact ⟨o, ho, fun v q => by rw [hd] at q; cases q⟩
  keep := fun i h h' st k => let ⟨⟨old, he⟩, hi, hne⟩ := st; ⟨⟨old, k e (by simp) _ he⟩, hi.at fun o q => k it (by simp) o q, hne⟩
  item := by
    intro X hP hw hK hc i pins s σ H E I hf st hg
    subst hP hw hK
    obtain ⟨⟨old, he⟩, hit, hne⟩ := st
    obtain ⟨xs, x, hq, hx⟩ := hg
    obtain ⟨its, rv, p, hz⟩ := I.tuple hq
    obtain ⟨u, hu, ru⟩ := rv.get hx
    have hel : e < s.heap.objs.size := Heap.lt_size he
    have hil : it < s.heap.objs.size := by obtain ⟨_, q, _⟩ := hit; exact Heap.lt_size q
    have hT0 : s.heap.IsTuple a its.toArray := p
    have nae : e ≠ a := fun z => by
      obtain ⟨o, ho, hcl, _⟩ := hT0
      rw [← z, he] at ho
      obtain rfl := Option.some.inj ho
      exact absurd (show Value.type "enumerate" = Value.type "tuple" from hcl) (by decide)
    have nai : a ≠ it := fun z => by
      obtain ⟨o, ho, hcl, _⟩ := hT0
      obtain ⟨o2, ho2, hcl2, _⟩ := hit
      rw [z, ho2] at ho
      obtain rfl := Option.some.inj ho
      rw [hcl2] at hcl
      exact absurd (show Value.type "tuple_iterator" = Value.type "tuple" from hcl) (by decide)
    refine wpAny_pyNext_enum_itemD (i := i) (Draws.tuple (A := X.A.in1) (I.ok.hd hc) it a nai its.toArray) he ⟨hit, hT0⟩ (by
      have := (List.getElem?_eq_some_iff.mp hu).1
      simpa using this) hne (by simp [hne, nae]) fun y h' tk hy ho hst' hT hsz hk => ?_
    have ey : y = u := by
      have hy' : its[i]? = some y := by simpa using hy
      rw [hu] at hy'
      exact (Option.some.inj hy').symm
    subst ey
    refine ⟨_, rfl, wpAny_letOwnedTupleGo_enum (s := { s with heap := h', toks := tk + 1 }) ho fun h'' he' sb => ?_⟩
    have hT2 : h''.get? s.heap.objs.size = some { cls := .type "tuple", data := .seq #[.int i tk, y] } := (sb.2 _ (Nat.ne_of_gt hel)).trans hT
    have new : ObjOk X.prog X.w (upd H s.heap.objs.size (.tup [.int (i : Nat), x])) h'' s.heap.objs.size (.tup [.int (i : Nat), x]) :=
      ⟨by show 2 ≤ sizeLine; decide, [.int i tk, y], .cons ⟨_, rfl⟩ (.cons ru .nil), ⟨_, hT2, rfl, _, rfl⟩⟩
    have I1 : Inv X pins σ (upd H s.heap.objs.size (.tup [.int (i : Nat), x])) { s with heap := h'', toks := tk + 1 } :=
      I.turnedNew (ch := [e, it]) (fun b ob hb q => (sb.2 b (fun z => hb (by simp [z]))).trans (hk b ob (fun z => hb (by simp [z])) (fun z => hb (by simp [z])) q)) hf (Nat.le_refl _) new
    refine ⟨.ref s.heap.objs.size, _, I1, rfl, ⟨_, x, rfl, I.hok.fresh (Nat.le_refl _), rfl, fun ys hy => by rw [I.tuple_inj hy hq]; exact hx⟩, ⟨⟨y, ?_⟩, hst'.1.at fun o q => (sb.2 it (Ne.symm hne)).trans q, hne⟩, fun b hb => ?_⟩
    · have e1 : ((i + 1 : Nat) : Int) = (i : Int) + 1 := by omega
      rw [e1]; exact he'
    · have hb' : b < s.heap.objs.size := by
        have e' : b = e ∨ b = it := by simpa using hb
        rcases e' with z | z
        · rw [z]; exact hel
        · rw [z]; exact hil
      rw [upd_ne (Nat.ne_of_lt hb')]
      exact (hf b hb).1
  done := by
    intro X hP hw hK hc i pins s σ H E I hf st hg
    subst hP hw hK
    obtain ⟨⟨old, he⟩, hit, hne⟩ := st
    obtain ⟨xs, hq, hx⟩ := hg
    obtain ⟨its, rv, p, hz⟩ := I.tuple hq
    obtain ⟨f0, f1, f2, f3, f4, f5⟩ := hf it (by simp)
    have hl := rv.length
    exact enumT_end (I.ok.hd hc) he hit p (by simp; omega) fun h' eb => ⟨rfl, I.turned (t' := s.toks) (fun b o hb q => eb b o hb q) f0 f1 f3 f4 f5⟩
  self := fun A i s Q E st h => let ⟨⟨_, he⟩, _⟩ := st; wpAny_pyIter_enum he h
def iEnumT (K : PySem.W.Frag) (ta : TA) : TI := fun σ H R => ta σ H fun vs H1 => ∃ a xs, vs = [.ref a] ∧ SqT K H1 a xs ∧ R (IteT K a) H1
theorem pi_enumT {X : Cx} {e : Expr} {ta : TA} {p pos tpos : Pos} {elts : List Expr} {kk : Nat} (hg : Gl X "enumerate") (hm : X.mg "enumerate" = none) (ha : PA X [e] ta) (hs : starEach [e] X.env = [(false, eval e X.env)] := by rfl) :
    PI X (.Tuple elts kk tpos) (.Call (.Name "enumerate" p) [e] [] pos) (iEnumT X.K ta) := by
  refine ⟨fun pins s σ H R I h => ?_⟩
  refine Call_ (ld_blt I hg hm boot_enumerate (PyProof.Rows.callWith_type1 (thn (ha.run pos pins s σ H _ I h) fun us s1 ⟨vs, H1, I1, r1, q1⟩ => ?_) hs rfl))
  obtain ⟨a, xs, ex, hq, q⟩ := q1
  subst ex
  cases r1 with
  | cons r rr =>
    cases rr
    cases r
    obtain ⟨its, rv, p', hz⟩ := I1.tuple hq
    refine call_enumT (show s1.heap.IsTuple a its.toArray from p') fun h' he hit hsz hk => wpAny_pyIter_enum he ?_
    have I2 : Inv X pins σ H1 { s1 with heap := h' } := I1.kept (t' := s1.toks) hk
    refine ⟨s1.heap.objs.size + 1, [s1.heap.objs.size + 1, s1.heap.objs.size], _, _, H1, rfl, I2, turn_enumT a (s1.heap.objs.size + 1) s1.heap.objs.size, ⟨⟨.none, he⟩, hit, Nat.succ_ne_self _⟩, fun b hb => ?_, q⟩
    have e' : b = s1.heap.objs.size + 1 ∨ b = s1.heap.objs.size := by simpa using hb
    have hle : s1.heap.objs.size ≤ b := by
      rcases e' with z | z
      · rw [z]; exact Nat.le_add_right _ _
      · rw [z]; exact Nat.le_refl _
    exact I1.fpOk hle (I1.hok.fresh hle)
/-- a loop over enumerate of a tuple -/
theorem for_enumT {K : PySem.W.Frag} {a : Addr} {xs : List V} {g : TG} {tb : TS} {D : Ends} {σ : L2.St} {H : Hp} (Pv : Nat → L2.St → Hp → Prop) (h0 : Pv 0 σ H) (hq : ∀ i σ H, Pv i σ H → SqT K H a xs)
    (hs : ∀ (i : Nat) (x : V) (T : Addr) (σ : L2.St) (H : Hp), xs[i]? = some x → Pv i σ H → H T = none → g (.ref T) σ (upd H T (.tup [.int (i : Nat), x])) fun σ2 H2 => tb { D with nx := Pv (i + 1), ct := Pv (i + 1), bk := D.nx } σ2 H2) (hd : ∀ σ H, Pv xs.length σ H → D.nx σ H) :
    ∃ W : Nat → Nat → L2.St → Hp → Prop, (∃ m, W 0 m σ H) ∧ ∀ i m σ H, W i m σ H →
      ((IteT K a).stop i H ∧ D.nx σ H) ∨ ((IteT K a).go i H ∧ ∃ N : L2.St → Hp → Prop, (∀ σ' H', N σ' H' → ∃ m', m' < m ∧ W (i + 1) m' σ' H') ∧ ∀ v H', (IteT K a).yld i H v H' → g v σ H' fun σ2 H2 => tb { D with nx := N, ct := N, bk := D.nx } σ2 H2) := by
  refine ⟨fun i m σ H => m = xs.length - i ∧ i ≤ xs.length ∧ Pv i σ H, ⟨xs.length, rfl, Nat.zero_le _, h0⟩, ?_⟩
  rintro i m σ H ⟨rfl, hi, p⟩
  have q := hq i σ H p
  rcases Nat.lt_or_ge i xs.length with hlt | hge
  · have ex := List.getElem?_eq_getElem hlt
    refine .inr ⟨⟨xs, _, q, ex⟩, Pv (i + 1), fun σ' H' p' => ⟨xs.length - (i + 1), by omega, rfl, hlt, p'⟩, ?_⟩
    rintro v H' ⟨T, x, rfl, hT, rfl, f1⟩
    exact hs i x T σ H (f1 xs q) p hT
  · have e : i = xs.length := by omega
    subst e
    exact .inl ⟨⟨xs, q, hge⟩, hd σ H p⟩
/-! ### enumerate over a list or a tuple -/
def ItEG (K : PySem.W.Frag) (t : Bool) (a : Addr) : It := match t with
  | true => IteT K a
  | false => Ite K a
def iEnumG (K : PySem.W.Frag) (ta : TA) : TI := fun σ H R => ta σ H fun vs H1 => ∃ (t : Bool) (a : Addr) (xs : List V), vs = [.ref a] ∧ ZG.Sq t K H1 a xs ∧ R (ItEG K t a) H1
theorem pi_enumG {X : Cx} {e : Expr} {ta : TA} {p pos tpos : Pos} {elts : List Expr} {kk : Nat} (hg : Gl X "enumerate") (hm : X.mg "enumerate" = none) (ha : PA X [e] ta) (hs : starEach [e] X.env = [(false, eval e X.env)] := by rfl) :
    PI X (.Tuple elts kk tpos) (.Call (.Name "enumerate" p) [e] [] pos) (iEnumG X.K ta) := by
  refine ⟨fun pins s σ H R I h => ?_⟩
  refine Call_ (ld_blt I hg hm boot_enumerate (PyProof.Rows.callWith_type1 (thn (ha.run pos pins s σ H _ I h) fun us s1 ⟨vs, H1, I1, r1, q1⟩ => ?_) hs rfl))
  obtain ⟨t, a, xs, ex, hq, q⟩ := q1
  subst ex
  have hle : ∀ b, b ∈ [s1.heap.objs.size + 1, s1.heap.objs.size] → s1.heap.objs.size ≤ b := fun b hb => by
    have e' : b = s1.heap.objs.size + 1 ∨ b = s1.heap.objs.size := by simpa using hb
    rcases e' with z | z
    · rw [z]; exact Nat.le_add_right _ _
    · rw [z]; exact Nat.le_refl _
  cases r1 with
  | cons r rr =>
    cases rr
    cases r
    cases t with
    | true =>
      obtain ⟨its, rv, p', hz⟩ := I1.tuple hq
      refine call_enumT (show s1.heap.IsTuple a its.toArray from p') fun h' he hit hsz hk => wpAny_pyIter_enum he ?_
      have I2 : Inv X pins σ H1 { s1 with heap := h' } := I1.kept (t' := s1.toks) hk
      exact ⟨s1.heap.objs.size + 1, [s1.heap.objs.size + 1, s1.heap.objs.size], _, _, H1, rfl, I2, turn_enumT a (s1.heap.objs.size + 1) s1.heap.objs.size, ⟨⟨.none, he⟩, hit, Nat.succ_ne_self _⟩, fun b hb => I1.fpOk (hle b hb) (I1.hok.fresh (hle b hb)), q⟩
    | false =>
      obtain ⟨its, rv, p', hz⟩ := I1.list hq
      refine call_enumerate_list p'.isList fun h' he hit hsz hk => wpAny_pyIter_enum he ?_
      have I2 : Inv X pins σ H1 { s1 with heap := h' } := I1.kept (t' := s1.toks) hk
      exact ⟨s1.heap.objs.size + 1, [s1.heap.objs.size + 1, s1.heap.objs.size], _, _, H1, rfl, I2, turn_enum a (s1.heap.objs.size + 1) s1.heap.objs.size, ⟨⟨.none, he⟩, hit, Nat.succ_ne_self _⟩, fun b hb => I1.fpOk (hle b hb) (I1.hok.fresh (hle b hb)), q⟩
theorem walk_enumG {K : PySem.W.Frag} {t : Bool} {a : Addr} {xs : List V} : Walk (ItEG K t a) xs.length (fun H => ZG.Sq t K H a xs) (YPair (fun i => some (.int (i : Nat))) (fun i => xs[i]?)) := by
  cases t with
  | false => exact walk_enum
  | true =>
    refine ⟨fun i H hi q => ⟨xs, xs[i], q, List.getElem?_eq_getElem hi⟩, fun H q => ⟨xs, q, Nat.le_refl _⟩, fun i H v H' _ q y => ?_⟩
    obtain ⟨T, x, h1, h2, h3, h4⟩ := y
    exact ⟨T, .int (i : Nat), x, h1, h2, h3, rfl, h4 xs q⟩
end EnT
namespace RpT
open PySem PySem.Spec PyProof.Rows L2
/-! ### tuple * int, for any int from 0 on (the library has it from 2 on) -/
theorem tuple_mul1 (l : Addr) (items : Array Value) (n : Nat) (dd : Option Addr) (sl : Array (Option Value)) (u : Tok) :
    Meets (Builtin.«tuple.__mul__» ⟨[.ref l, .int 1 u], []⟩) (fun _ R s => s.heap.get? l = some { cls := .type "tuple", dict := dd, data := .seq items n, slots := sl } ∧
      R (.ok (.ret (Value.ref l))) s) :=
  .of_wp fun prog w A R s h => by
    obtain ⟨hp, g, d, tk, os⟩ := s
    obtain ⟨hl, h⟩ := h
    have f1 := AutoSeq1.idx_int
    have c0 : (decide ((1 : Int) < -(2 ^ 63)) || decide ((1 : Int) ≥ 2 ^ 63)) = false := by decide
    have c1 : (items.isEmpty || (1 : Int) == 1) = true := by rw [show ((1 : Int) == 1) = true from rfl, Bool.or_true]
    wp_walk using wpAny_loadPart' hl
    repeat (first
      | (refine wpAny_ite_false (decide_eq_false (by rw [c0]; exact Bool.false_ne_true)) ?_; wp_walk using wpAny_loadPart' hl)
      | (refine wpAny_ite_true (decide_eq_true c1) ?_; wp_walk using wpAny_loadPart' hl))
    exact ⟨_, rfl, h⟩
theorem tuple_mul0 (l : Addr) (items : Array Value) (n : Nat) (dd : Option Addr) (sl : Array (Option Value)) (u : Tok) (hne : items.isEmpty = false) :
    Meets (Builtin.«tuple.__mul__» ⟨[.ref l, .int 0 u], []⟩) (fun _ R s => s.heap.get? l = some { cls := .type "tuple", dict := dd, data := .seq items n, slots := sl } ∧
      R (.ok (.ret (Value.ref s.heap.objs.size))) { s with heap := s.heap.push { cls := Value.type "tuple", data := Data.seq #[] }, toks := s.toks }) :=
  .of_wp fun prog w A R s h => by
    obtain ⟨hp, g, d, tk, os⟩ := s
    obtain ⟨hl, h⟩ := h
    have f1 := AutoSeq1.idx_int
    have c0 : (decide ((0 : Int) < -(2 ^ 63)) || decide ((0 : Int) ≥ 2 ^ 63)) = false := by decide
    have c1 : (items.isEmpty || (0 : Int) == 1) = false := by rw [hne]; rfl
    have c2 : (decide ((0 : Int) ≤ 0) || items.isEmpty) = true := by rw [decide_eq_true (Int.le_refl 0)]; rfl
    wp_walk using wpAny_loadPart' hl
    repeat (first
      | (refine wpAny_ite_false (decide_eq_false (by rw [c0]; exact Bool.false_ne_true)) ?_; wp_walk using wpAny_loadPart' hl)
      | (refine wpAny_ite_false (decide_eq_false (by rw [c1]; exact Bool.false_ne_true)) ?_; wp_walk using wpAny_loadPart' hl)
      | (refine wpAny_ite_true (decide_eq_true c2) ?_; wp_walk using wpAny_loadPart' hl))
    exact ⟨_, rfl, h⟩
def rRepTA (K : PySem.W.Frag) : R2 := fun x y H Q => ∃ l k xs, x = .ref l ∧ y = .int k ∧ SqT K H l xs ∧ xs ≠ [] ∧ 0 ≤ k ∧ k ≤ 1000 ∧ xs.length ≤ 1000 ∧ (k = 1 → Q (.ref l) H) ∧ (k ≠ 1 → ∀ p, H p = none → Q (.ref p) (upd H p (.tup (List.replicate k.toNat xs).flatten)))
theorem op_repTA {X : Cx} : OpR X (binaryOp .Mult) (rRepTA X.K) := by
  intro pins s σ H x y v u Q I rx ry h
  obtain ⟨l, k, xs, rfl, rfl, hT, hne, h0, h1, hz, q1, q⟩ := h
  by_cases k2 : 2 ≤ k
  · exact op_repT pins s σ H _ _ v u Q I rx ry ⟨l, k, xs, rfl, rfl, hT, hne, k2, h1, hz, q (by omega)⟩
  cases rx
  obtain ⟨t, rfl⟩ := ry
  obtain ⟨its, r, ⟨⟨cls, dd, data, sl⟩, ho, hc, n, hd⟩, hs⟩ := I.tuple hT
  simp only at hc hd
  subst hc hd
  have hle : its.length = xs.length := r.length.symm
  have hi : its.toArray.isEmpty = false := by
    cases its with
    | nil => exact absurd (List.eq_nil_of_length_eq_zero hle.symm) hne
    | cons a b => rfl
  by_cases k1 : k = 1
  · subst k1
    exact wpAny_binaryOp_repeat_ref (T := "tuple") (U := "int") (by decide) ⟨_, ho, rfl⟩ (fun s' => typeIs_int s' 1 t) noFill_tuple_mul F.fills_int_mul F.slot_int_rmul repeat_tuple F.slot_int_index.lookup
      (call_meets F.slot_int_rmul (typeIs_int s 1 t) F.entry_int_rmul (F.args_int_rmul_2 _ _) (int_rmul_tuple 1 t l its.toArray n dd sl)
        ⟨ho, rfl, ⟨_, ho, rfl⟩, call_meets F.slot_tuple_mul ⟨_, ho, rfl⟩ F.entry_tuple_mul (F.args_tuple_mul_2 _ _) (tuple_mul1 l its.toArray n dd sl t) ⟨ho, ⟨.ref l, H, I, rfl, q1 rfl⟩⟩⟩)
  · have k0 : k = 0 := by omega
    subst k0
    refine wpAny_binaryOp_repeat_ref (T := "tuple") (U := "int") (by decide) ⟨_, ho, rfl⟩ (fun s' => typeIs_int s' 0 t) noFill_tuple_mul F.fills_int_mul F.slot_int_rmul repeat_tuple F.slot_int_index.lookup
      (call_meets F.slot_int_rmul (typeIs_int s 0 t) F.entry_int_rmul (F.args_int_rmul_2 _ _) (int_rmul_tuple 0 t l its.toArray n dd sl)
        ⟨ho, rfl, ⟨_, ho, rfl⟩, call_meets F.slot_tuple_mul ⟨_, ho, rfl⟩ F.entry_tuple_mul (F.args_tuple_mul_2 _ _) (tuple_mul0 l its.toArray n dd sl t hi) ⟨ho, ?_⟩⟩)
    refine ⟨.ref s.heap.objs.size, _, I.laid (t' := s.toks) (o := .tup []) (fun b ob q => Heap.get?_push_of_some _ q) (Nat.le_refl _) ?_, rfl, q (by decide) _ (I.hok.fresh (Nat.le_refl _))⟩
    exact ⟨by rw [sizeLine_eq]; decide, _, .nil, IsTup.new _ _⟩
/-! ### a method of a tuple that was made on the way (and stays as it is) -/
section
variable {X : Cx}
def TupFz (H : Hp) (p : Addr) : Prop := ∃ o ys, H p = some (.frz o (.tup ys)) ∧ o.dict = none
def tBMT (r : V → List V → Hp → VK → Prop) (to : TE) (t : TA) : TE := fun σ H Q => to σ H fun x H1 => (∃ p, x = .ref p ∧ TupFz H1 p) ∧ t σ H1 fun xs H2 => r x xs H2 Q
variable {o e : Expr} {es : List Expr} {to : TE} {t : TA} {name : Str} {apos cpos : Pos} {id : String} {r : V → List V → Hp → VK → Prop}
theorem pe_bmT (pa : PlainAttrs "tuple") (slot : Slot "tuple" name id) (hty : typeOf (.builtin id) = pure (.type "method_descriptor")) (hm : MtR X id r) (ho : PE X o to) (ha : PA X (e :: es) t)
    (hbase : attributeBase o name X.env (eval o X.env) = eval o X.env := by rfl)
    (hfew : ((backTo cpos (starEach (e :: es) X.env)).all (fun x => !x.1) && (backToKw cpos (keywordEach [] X.env)).all (fun x => x.1.isSome)
      && decide ((e :: es).length + ([] : List Keyword).length + (if ([] : List Keyword).isEmpty then 0 else 1) < 30)) = true := by rfl)
    (hline : (apos.endLine == cpos.line) = true := by rfl) (hs : starEach (e :: es) X.env = (false, eval e X.env) :: starEach es X.env := by rfl) (hplain : (backTo cpos (starEach es X.env)).any (·.1) = false := by rfl) :
    PE X (.Call (.Attribute o name apos) (e :: es) [] cpos) (tBMT r to t) := by
  refine ⟨fun pins s σ H Q I h => ?_⟩
  refine wpAny_Call_method_late hbase hfew hline rfl (thn (ho.run pins s σ H _ I h) fun v s1 ⟨x, H1, I1, r1, ⟨p, ex, o, ys, hp, hd⟩, q1⟩ => ?_)
  subst ex
  cases r1
  obtain ⟨e1, _, its, _, ob, e2, hc, _⟩ := (show ObjOk X.prog X.w H1 s1.heap p (.frz o (.tup ys)) from I1.hok _ _ hp)
  rw [e1] at e2
  cases e2
  refine ⟨"tuple", id, pa, slot, hty, ⟨o, e1, hc⟩, fun a e => ?_, ?_⟩
  · cases e
    exact ⟨o, e1, hd⟩
  have hA := ha.run cpos pins s1 σ H1 _ I1 q1
  rw [hs] at hA ⊢
  refine Calls.callWith_builtin (by show (false || (backTo cpos (starEach es X.env)).any (·.1)) = false; rw [hplain] <;> rfl) (Calls.evalArgs_plain ?_)
  exact thn hA fun us s2 ⟨vs, H2, I2, r2, q2⟩ => hm pins s2 σ H2 (.ref p) vs _ us Q I2 rfl r2 q2
end
end RpT
namespace TZ
open PySem PySem.Spec PyProof.Rows L2
/-! ### tuple(list): a tuple whose object is told -/
variable {X : Cx}
theorem call_tuple_fz : CallR X (.type "tuple") (fun xs H Q => ∃ p ys, xs = [.ref p] ∧ SqL X.K H p ys ∧ ∀ l o, H l = none → o.cls = .type "tuple" → o.dict = none → Q (.ref l) (upd H l (.frz o (.tup ys)))) := by
  intro pins s σ H xs us Q I r h
  obtain ⟨p, ys, rfl, hq, q⟩ := h
  obtain ⟨u, rfl, rx⟩ := vals1 r
  cases rx
  obtain ⟨its, r', pl, hz⟩ := I.list hq
  have hlen := r'.length
  refine call_tuple_list pl.isList (fun h' kp => ?_) (by simp only [List.size_toArray] <;> omega)
  have I1 : Inv X pins σ H { s with heap := h' } := I.kept (t' := s.toks) kp
  have I2 : Inv X pins σ (upd H h'.objs.size (.frz { cls := .type "tuple", data := .seq its.toArray } (.tup ys))) { s with heap := h'.push { cls := .type "tuple", data := .seq its.toArray } } :=
    I1.laid (t' := s.toks) (fun b o e => Heap.get?_push_of_some _ e) (Nat.le_refl _) (show ObjOk X.prog X.w _ _ _ (.frz _ (.tup ys)) from ⟨Heap.get?_push_size _ rfl, hz, its, r', IsTup.new _ _⟩)
  exact ⟨.ref h'.objs.size, _, I2, rfl, q _ _ (I1.hok.fresh (Nat.le_refl _)) rfl rfl⟩
end TZ
namespace MxT
open PySem PySem.Spec PyProof.Rows L2
/-! ### max and min of a tuple of whole numbers -/
section
variable {prog : Program} {w : World} {A : Around} {E : Value → Shared → Prop} {s : Shared} {l : Addr} {its : List Value} {ns : List Int} {Q : Value → Shared → Prop}
theorem old_keptT {h' : Heap} (hk : ∀ b o, b ∉ [s.heap.objs.size] → (s.heap.push { cls := .type "tuple_iterator", data := .fields #[.ref l, .int 0 0] }).get? b = some o → h'.get? b = some o) :
    ∀ b o, s.heap.get? b = some o → h'.get? b = some o := fun b o e =>
  hk b o (fun z => absurd (Heap.lt_size e) ((List.mem_singleton.mp z) ▸ Nat.lt_irrefl _)) (Heap.get?_push_of_some _ e)
theorem maxT_raw (hh : A.handled = none) (hl : s.heap.IsTuple l its.toArray) (hi : IntsAre its ns) (hne : 0 < ns.length)
    (h : ∀ h' tk M t', (∀ b o, s.heap.get? b = some o → h'.get? b = some o) → M ∈ ns → (∀ a, a ∈ ns → a ≤ M) → Q (.int M t') { s with heap := h', toks := tk }) : wpAny (model prog w) A (call (.builtin "max") [.ref l]) Q E s := by
  obtain ⟨xs, e⟩ := hi.allInts.items
  have hn : numsOf (intItems xs).toList = ns := by rw [← e]; exact hi.numsOf
  rw [nums_intItems] at hn
  subst hn
  rw [e] at hl
  have hsz : 0 < xs.size := by simpa using hne
  have hlt : l < s.heap.objs.size := by
    obtain ⟨_, e, _⟩ := hl
    exact Heap.lt_size e
  refine PySem.call_max_walk (wpAny_pyIter_tuple hl ?_)
  refine ⟨_, _, _, _, _, _, _, rfl, Walks.tuple (A := A.in1) hh _ l (Nat.ne_of_lt hlt) (intItems xs), ⟨⟨_, Heap.get?_push_size _ rfl, rfl, rfl⟩, hl.push _⟩, fun b hb => ?_, by simpa [intItems] using hsz, CmpOf.ints_gt (numAt xs) (fun _ _ => intItems_at), fun v h' tk hv hk => ?_⟩
  · show b < (s.heap.push _).objs.size
    rw [Heap.size_push]
    have hb' : b = s.heap.objs.size ∨ b = l := by simpa using hb
    rcases hb' with z | z
    · rw [z]; exact Nat.lt_succ_self _
    · rw [z]; exact Nat.lt_succ_of_lt hlt
  · have hv' : (intItems xs)[argBest (fun i j => decide (numAt xs i > numAt xs j)) (xs.size - 1)]? = some v := by simpa [intItems] using hv
    obtain ⟨t, rfl⟩ := intItems_at hv'
    obtain ⟨h1, h2⟩ := argBest_gt (numAt xs) (xs.size - 1)
    refine h h' tk _ t (old_keptT hk) ?_ fun a ha => ?_
    · rw [numAt_eq]; exact PySem.getD_mem (by rw [List.length_map, Array.length_toList]; omega)
    · obtain ⟨j, hj, rfl⟩ := mem_getD ha
      have hj2 : j < xs.size := by simpa using hj
      rw [← numAt_eq]; exact h2 j (by omega)
theorem minT_raw (hh : A.handled = none) (hl : s.heap.IsTuple l its.toArray) (hi : IntsAre its ns) (hne : 0 < ns.length)
    (h : ∀ h' tk M t', (∀ b o, s.heap.get? b = some o → h'.get? b = some o) → M ∈ ns → (∀ a, a ∈ ns → M ≤ a) → Q (.int M t') { s with heap := h', toks := tk }) : wpAny (model prog w) A (call (.builtin "min") [.ref l]) Q E s := by
  obtain ⟨xs, e⟩ := hi.allInts.items
  have hn : numsOf (intItems xs).toList = ns := by rw [← e]; exact hi.numsOf
  rw [nums_intItems] at hn
  subst hn
  rw [e] at hl
  have hsz : 0 < xs.size := by simpa using hne
  have hlt : l < s.heap.objs.size := by
    obtain ⟨_, e, _⟩ := hl
    exact Heap.lt_size e
  refine PySem.call_min_walk (wpAny_pyIter_tuple hl ?_)
  refine ⟨_, _, _, _, _, _, _, rfl, Walks.tuple (A := A.in1) hh _ l (Nat.ne_of_lt hlt) (intItems xs), ⟨⟨_, Heap.get?_push_size _ rfl, rfl, rfl⟩, hl.push _⟩, fun b hb => ?_, by simpa [intItems] using hsz, CmpOf.ints_lt (numAt xs) (fun _ _ => intItems_at), fun v h' tk hv hk => ?_⟩
  · show b < (s.heap.push _).objs.size
    rw [Heap.size_push]
    have hb' : b = s.heap.objs.size ∨ b = l := by simpa using hb
    rcases hb' with z | z
    · rw [z]; exact Nat.lt_succ_self _
    · rw [z]; exact Nat.lt_succ_of_lt hlt
  · have hv' : (intItems xs)[argBest (fun i j => decide (numAt xs i < numAt xs j)) (xs.size - 1)]? = some v := by simpa [intItems] using hv
    obtain ⟨t, rfl⟩ := intItems_at hv'
    obtain ⟨h1, h2⟩ := argBest_lt (numAt xs) (xs.size - 1)
    refine h h' tk _ t (old_keptT hk) ?_ fun a ha => ?_
    · rw [numAt_eq]; exact PySem.getD_mem (by rw [List.length_map, Array.length_toList]; omega)
    · obtain ⟨j, hj, rfl⟩ := mem_getD ha
      have hj2 : j < xs.size := by simpa using hj
      rw [← numAt_eq]; exact h2 j (by omega)
end
section
variable {X : Cx}
def rMaxT (K : PySem.W.Frag) : List V → Hp → VK → Prop := fun vs H Q => ∃ (a : Addr) (ns : List Int), vs = [V.ref a] ∧ SqT K H a (ns.map V.int) ∧ 0 < ns.length ∧ ∀ m, m ∈ ns → (∀ y, y ∈ ns → y ≤ m) → Q (.int m) H
def rMinT (K : PySem.W.Frag) : List V → Hp → VK → Prop := fun vs H Q => ∃ (a : Addr) (ns : List Int), vs = [V.ref a] ∧ SqT K H a (ns.map V.int) ∧ 0 < ns.length ∧ ∀ m, m ∈ ns → (∀ y, y ∈ ns → m ≤ y) → Q (.int m) H
theorem call_maxT (hc : X.calm = true) : CallR X (.builtin "max") (rMaxT X.K) := by
  intro pins s σ H vs us Q I r h
  obtain ⟨a, ns, rfl, hs, hne, q⟩ := h
  obtain ⟨its, rv, hl, _⟩ := I.tuple hs
  rw [Vals.ref1 r]
  exact maxT_raw (I.ok.hd hc) hl rv.ints hne fun h' tk m t' hk h1 h2 => ⟨.int _, H, I.kept hk, ⟨_, rfl⟩, q m h1 h2⟩
theorem call_minT (hc : X.calm = true) : CallR X (.builtin "min") (rMinT X.K) := by
  intro pins s σ H vs us Q I r h
  obtain ⟨a, ns, rfl, hs, hne, q⟩ := h
  obtain ⟨its, rv, hl, _⟩ := I.tuple hs
  rw [Vals.ref1 r]
  exact minT_raw (I.ok.hd hc) hl rv.ints hne fun h' tk m t' hk h1 h2 => ⟨.int _, H, I.kept hk, ⟨_, rfl⟩, q m h1 h2⟩
end
end MxT
namespace Mine
open PySem L2
def top (i : Nat) : Stmt := PySem.Challenge.pw_neverhappens_k23_form_of.main.body.getD i (.Pass ⟨0, 0, 0, 0⟩)
abbrev s_range_of : Stmt := top 1
abbrev s_constant_form : Stmt := top 3
abbrev s_column_form : Stmt := top 4
abbrev s_sum_of_forms : Stmt := top 5
abbrev s_form_times : Stmt := top 6
abbrev s_difference_of_forms : Stmt := top 7
abbrev s_used_columns : Stmt := top 8
abbrev s_difference_columns : Stmt := top 9
abbrev s_range_of_form : Stmt := top 10
abbrev s_occurs : Stmt := top 11
abbrev s_form_of : Stmt := top 12
abbrev s_product_form : Stmt := top 13
abbrev s_l_cell : Stmt := top 15
abbrev s_l_source : Stmt := top 16
abbrev s_l_pick : Stmt := top 17
abbrev s_l_one : Stmt := top 18
abbrev s_l_names : Stmt := top 19
abbrev s_l_far : Stmt := top 20
abbrev s_l_words : Stmt := top 21
abbrev s_l_order : Stmt := top 22
abbrev s_l_number : Stmt := top 23
abbrev s_l_known : Stmt := top 24
abbrev s_l_cloud : Stmt := top 25
abbrev s_l_drawn_form : Stmt := top 26
abbrev s_l_box : Stmt := top 27
abbrev s_l_value : Stmt := top 28
abbrev s_l_has : Stmt := top 29
abbrev s_l_spread : Stmt := top 30
abbrev s_l_corners : Stmt := top 31
abbrev s_l_form : Stmt := top 32
abbrev s_l_add : Stmt := top 33
abbrev s_l_values_at : Stmt := top 34
abbrev s_l_same : Stmt := top 35
abbrev s_l_kept : Stmt := top 36
abbrev s_l_asked : Stmt := top 37
abbrev s_law : Stmt := top 38
abbrev p_range_of : List Str := ["box", "i"]
abbrev p_constant_form : List Str := ["number", "box"]
abbrev p_column_form : List Str := ["column", "box"]
abbrev p_sum_of_forms : List Str := ["left", "right"]
abbrev p_form_times : List Str := ["form", "number"]
abbrev p_difference_of_forms : List Str := ["left", "right"]
abbrev p_used_columns : List Str := ["form"]
abbrev p_difference_columns : List Str := ["form"]
abbrev p_range_of_form : List Str := ["form", "box"]
abbrev p_occurs : List Str := ["names", "expression"]
abbrev p_form_of : List Str := ["expression", "known", "names", "box"]
abbrev p_product_form : List Str := ["left", "right", "box"]
abbrev p_l_cell : List Str := ["_law_script", "_law_at"]
abbrev p_l_source : List Str := ["_law_cell_here"]
abbrev p_l_pick : List Str := ["_law_source_here", "_law_size"]
abbrev p_l_one : List Str := ["_law_source_here", "_law_row"]
abbrev p_l_names : List Str := ["_law_source_here"]
abbrev p_l_far : List Str := ["_law_source_here"]
abbrev p_l_words : List Str := ["_law_source_here"]
abbrev p_l_order : List Str := ["_law_source_here", "_law_words_here"]
abbrev p_l_number : List Str := ["_law_source_here", "_law_pool", "_law_depth"]
abbrev p_l_known : List Str := ["_law_source_here", "_law_words_here", "_law_numbers"]
abbrev p_l_cloud : List Str := ["_law_source_here", "_law_size"]
abbrev p_l_drawn_form : List Str := ["_law_source_here", "_law_size"]
abbrev p_l_box : List Str := ["_law_points"]
abbrev p_l_value : List Str := ["_law_expression", "_law_env"]
abbrev p_l_has : List Str := ["_law_expression", "_law_names_here"]
abbrev p_l_spread : List Str := ["_law_form_here", "_law_points"]
abbrev p_l_corners : List Str := ["_law_expression", "_law_known_here", "_law_names_here", "_law_points"]
abbrev p_l_form : List Str := ["_law_expression", "_law_known_here", "_law_names_here", "_law_points"]
abbrev p_l_add : List Str := ["_law_table", "_law_expression", "_law_factor", "_law_known_here", "_law_names_here", "_law_points"]
abbrev p_l_values_at : List Str := ["_law_known_here", "_law_names_here", "_law_point"]
abbrev p_l_same : List Str := ["_law_actual", "_law_due"]
abbrev p_l_kept : List Str := ["_law_handed", "_law_known_here"]
abbrev p_l_asked : List Str := ["_law_expression", "_law_known_here", "_law_names_here", "_law_points"]
abbrev p_law : List Str := ["_law_script"]
/-- what the program's top leaves: where each def stands -/
structure Txt (w : World) (K : PySem.W.Frag) (mg : Str → Option Value) where
  a_range_of : Addr
  d_range_of : FuncData
  F_range_of : Fun K "range_of" "range_of" s_range_of a_range_of d_range_of
  b_range_of : Binds K d_range_of p_range_of []
  m_range_of : mg "range_of" = some (.ref a_range_of)
  a_constant_form : Addr
  d_constant_form : FuncData
  F_constant_form : Fun K "constant_form" "constant_form" s_constant_form a_constant_form d_constant_form
  b_constant_form : Binds K d_constant_form p_constant_form []
  m_constant_form : mg "constant_form" = some (.ref a_constant_form)
  a_column_form : Addr
  d_column_form : FuncData
  F_column_form : Fun K "column_form" "column_form" s_column_form a_column_form d_column_form
  b_column_form : Binds K d_column_form p_column_form []
  m_column_form : mg "column_form" = some (.ref a_column_form)
  a_sum_of_forms : Addr
  d_sum_of_forms : FuncData
  F_sum_of_forms : Fun K "sum_of_forms" "sum_of_forms" s_sum_of_forms a_sum_of_forms d_sum_of_forms
  b_sum_of_forms : Binds K d_sum_of_forms p_sum_of_forms []
  m_sum_of_forms : mg "sum_of_forms" = some (.ref a_sum_of_forms)
  a_form_times : Addr
  d_form_times : FuncData
  F_form_times : Fun K "form_times" "form_times" s_form_times a_form_times d_form_times
  b_form_times : Binds K d_form_times p_form_times []
  m_form_times : mg "form_times" = some (.ref a_form_times)
  a_difference_of_forms : Addr
  d_difference_of_forms : FuncData
  F_difference_of_forms : Fun K "difference_of_forms" "difference_of_forms" s_difference_of_forms a_difference_of_forms d_difference_of_forms
  b_difference_of_forms : Binds K d_difference_of_forms p_difference_of_forms []
  m_difference_of_forms : mg "difference_of_forms" = some (.ref a_difference_of_forms)
  a_used_columns : Addr
  d_used_columns : FuncData
  F_used_columns : Fun K "used_columns" "used_columns" s_used_columns a_used_columns d_used_columns
  b_used_columns : Binds K d_used_columns p_used_columns []
  m_used_columns : mg "used_columns" = some (.ref a_used_columns)
  a_difference_columns : Addr
  d_difference_columns : FuncData
  F_difference_columns : Fun K "difference_columns" "difference_columns" s_difference_columns a_difference_columns d_difference_columns
  b_difference_columns : Binds K d_difference_columns p_difference_columns []
  m_difference_columns : mg "difference_columns" = some (.ref a_difference_columns)
  a_range_of_form : Addr
  d_range_of_form : FuncData
  F_range_of_form : Fun K "range_of_form" "range_of_form" s_range_of_form a_range_of_form d_range_of_form
  b_range_of_form : Binds K d_range_of_form p_range_of_form []
  m_range_of_form : mg "range_of_form" = some (.ref a_range_of_form)
  a_occurs : Addr
  d_occurs : FuncData
  F_occurs : Fun K "occurs" "occurs" s_occurs a_occurs d_occurs
  b_occurs : Binds K d_occurs p_occurs []
  m_occurs : mg "occurs" = some (.ref a_occurs)
  a_form_of : Addr
  d_form_of : FuncData
  F_form_of : Fun K "form_of" "form_of" s_form_of a_form_of d_form_of
  b_form_of : Binds K d_form_of p_form_of []
  m_form_of : mg "form_of" = some (.ref a_form_of)
  a_product_form : Addr
  d_product_form : FuncData
  F_product_form : Fun K "product_form" "product_form" s_product_form a_product_form d_product_form
  b_product_form : Binds K d_product_form p_product_form []
  m_product_form : mg "product_form" = some (.ref a_product_form)
  a_l_cell : Addr
  d_l_cell : FuncData
  F_l_cell : Fun K "_law_cell" "_law_cell" s_l_cell a_l_cell d_l_cell
  b_l_cell : Binds K d_l_cell p_l_cell []
  m_l_cell : mg "_law_cell" = some (.ref a_l_cell)
  a_l_source : Addr
  d_l_source : FuncData
  F_l_source : Fun K "_law_source" "_law_source" s_l_source a_l_source d_l_source
  b_l_source : Binds K d_l_source p_l_source []
  m_l_source : mg "_law_source" = some (.ref a_l_source)
  a_l_pick : Addr
  d_l_pick : FuncData
  F_l_pick : Fun K "_law_pick" "_law_pick" s_l_pick a_l_pick d_l_pick
  b_l_pick : Binds K d_l_pick p_l_pick []
  m_l_pick : mg "_law_pick" = some (.ref a_l_pick)
  a_l_one : Addr
  d_l_one : FuncData
  F_l_one : Fun K "_law_one" "_law_one" s_l_one a_l_one d_l_one
  b_l_one : Binds K d_l_one p_l_one []
  m_l_one : mg "_law_one" = some (.ref a_l_one)
  a_l_names : Addr
  d_l_names : FuncData
  F_l_names : Fun K "_law_names" "_law_names" s_l_names a_l_names d_l_names
  b_l_names : Binds K d_l_names p_l_names []
  m_l_names : mg "_law_names" = some (.ref a_l_names)
  a_l_far : Addr
  d_l_far : FuncData
  F_l_far : Fun K "_law_far" "_law_far" s_l_far a_l_far d_l_far
  b_l_far : Binds K d_l_far p_l_far []
  m_l_far : mg "_law_far" = some (.ref a_l_far)
  a_l_words : Addr
  d_l_words : FuncData
  F_l_words : Fun K "_law_words" "_law_words" s_l_words a_l_words d_l_words
  b_l_words : Binds K d_l_words p_l_words []
  m_l_words : mg "_law_words" = some (.ref a_l_words)
  a_l_order : Addr
  d_l_order : FuncData
  F_l_order : Fun K "_law_order" "_law_order" s_l_order a_l_order d_l_order
  b_l_order : Binds K d_l_order p_l_order []
  m_l_order : mg "_law_order" = some (.ref a_l_order)
  a_l_number : Addr
  d_l_number : FuncData
  F_l_number : Fun K "_law_number" "_law_number" s_l_number a_l_number d_l_number
  b_l_number : Binds K d_l_number p_l_number []
  m_l_number : mg "_law_number" = some (.ref a_l_number)
  a_l_known : Addr
  d_l_known : FuncData
  F_l_known : Fun K "_law_known" "_law_known" s_l_known a_l_known d_l_known
  b_l_known : Binds K d_l_known p_l_known []
  m_l_known : mg "_law_known" = some (.ref a_l_known)
  a_l_cloud : Addr
  d_l_cloud : FuncData
  F_l_cloud : Fun K "_law_cloud" "_law_cloud" s_l_cloud a_l_cloud d_l_cloud
  b_l_cloud : Binds K d_l_cloud p_l_cloud []
  m_l_cloud : mg "_law_cloud" = some (.ref a_l_cloud)
  a_l_drawn_form : Addr
  d_l_drawn_form : FuncData
  F_l_drawn_form : Fun K "_law_drawn_form" "_law_drawn_form" s_l_drawn_form a_l_drawn_form d_l_drawn_form
  b_l_drawn_form : Binds K d_l_drawn_form p_l_drawn_form []
  m_l_drawn_form : mg "_law_drawn_form" = some (.ref a_l_drawn_form)
  a_l_box : Addr
  d_l_box : FuncData
  F_l_box : Fun K "_law_box" "_law_box" s_l_box a_l_box d_l_box
  b_l_box : Binds K d_l_box p_l_box []
  m_l_box : mg "_law_box" = some (.ref a_l_box)
  a_l_value : Addr
  d_l_value : FuncData
  F_l_value : Fun K "_law_value" "_law_value" s_l_value a_l_value d_l_value
  b_l_value : Binds K d_l_value p_l_value []
  m_l_value : mg "_law_value" = some (.ref a_l_value)
  a_l_has : Addr
  d_l_has : FuncData
  F_l_has : Fun K "_law_has" "_law_has" s_l_has a_l_has d_l_has
  b_l_has : Binds K d_l_has p_l_has []
  m_l_has : mg "_law_has" = some (.ref a_l_has)
  a_l_spread : Addr
  d_l_spread : FuncData
  F_l_spread : Fun K "_law_spread" "_law_spread" s_l_spread a_l_spread d_l_spread
  b_l_spread : Binds K d_l_spread p_l_spread []
  m_l_spread : mg "_law_spread" = some (.ref a_l_spread)
  a_l_corners : Addr
  d_l_corners : FuncData
  F_l_corners : Fun K "_law_corners" "_law_corners" s_l_corners a_l_corners d_l_corners
  b_l_corners : Binds K d_l_corners p_l_corners []
  m_l_corners : mg "_law_corners" = some (.ref a_l_corners)
  a_l_form : Addr
  d_l_form : FuncData
  F_l_form : Fun K "_law_form" "_law_form" s_l_form a_l_form d_l_form
  b_l_form : Binds K d_l_form p_l_form []
  m_l_form : mg "_law_form" = some (.ref a_l_form)
  a_l_add : Addr
  d_l_add : FuncData
  F_l_add : Fun K "_law_add" "_law_add" s_l_add a_l_add d_l_add
  b_l_add : Binds K d_l_add p_l_add []
  m_l_add : mg "_law_add" = some (.ref a_l_add)
  a_l_values_at : Addr
  d_l_values_at : FuncData
  F_l_values_at : Fun K "_law_values_at" "_law_values_at" s_l_values_at a_l_values_at d_l_values_at
  b_l_values_at : Binds K d_l_values_at p_l_values_at []
  m_l_values_at : mg "_law_values_at" = some (.ref a_l_values_at)
  a_l_same : Addr
  d_l_same : FuncData
  F_l_same : Fun K "_law_same" "_law_same" s_l_same a_l_same d_l_same
  b_l_same : Binds K d_l_same p_l_same []
  m_l_same : mg "_law_same" = some (.ref a_l_same)
  a_l_kept : Addr
  d_l_kept : FuncData
  F_l_kept : Fun K "_law_kept" "_law_kept" s_l_kept a_l_kept d_l_kept
  b_l_kept : Binds K d_l_kept p_l_kept []
  m_l_kept : mg "_law_kept" = some (.ref a_l_kept)
  a_l_asked : Addr
  d_l_asked : FuncData
  F_l_asked : Fun K "_law_asked" "_law_asked" s_l_asked a_l_asked d_l_asked
  b_l_asked : Binds K d_l_asked p_l_asked []
  m_l_asked : mg "_law_asked" = some (.ref a_l_asked)
  a_law : Addr
  d_law : FuncData
  F_law : Fun K "law" "law" s_law a_law d_law
  b_law : Binds K d_law p_law []
  m_law : mg "law" = some (.ref a_law)
  z_any : mg "any" = none
  z_bool : mg "bool" = none
  z_dict : mg "dict" = none
  z_enumerate : mg "enumerate" = none
  z_int : mg "int" = none
  z_isinstance : mg "isinstance" = none
  z_len : mg "len" = none
  z_list : mg "list" = none
  z_max : mg "max" = none
  z_min : mg "min" = none
  z_range : mg "range" = none
  z_sorted : mg "sorted" = none
  z_str : mg "str" = none
  z_sum : mg "sum" = none
  z_tuple : mg "tuple" = none
  z_zip : mg "zip" = none
abbrev n_range_of : List Str := ["box", "i"]
theorem sc_range_of : FnScope n_range_of p_range_of (defScope s_range_of) := ⟨rfl, rfl, rfl, by decide +kernel, rfl, by decide +kernel, by decide +kernel⟩
abbrev n_constant_form : List Str := ["number", "box"]
theorem sc_constant_form : FnScope n_constant_form p_constant_form (defScope s_constant_form) := ⟨rfl, rfl, rfl, by decide +kernel, rfl, by decide +kernel, by decide +kernel⟩
abbrev n_column_form : List Str := ["column", "box", "coefficients", "at"]
theorem sc_column_form : FnScope n_column_form p_column_form (defScope s_column_form) := ⟨rfl, rfl, rfl, by decide +kernel, rfl, by decide +kernel, by decide +kernel⟩
abbrev n_sum_of_forms : List Str := ["left", "right", "coefficients", "a", "b"]
theorem sc_sum_of_forms : FnScope n_sum_of_forms p_sum_of_forms (defScope s_sum_of_forms) := ⟨rfl, rfl, rfl, by decide +kernel, rfl, by decide +kernel, by decide +kernel⟩
abbrev n_form_times : List Str := ["form", "number", "coefficients", "each", "ends"]
theorem sc_form_times : FnScope n_form_times p_form_times (defScope s_form_times) := ⟨rfl, rfl, rfl, by decide +kernel, rfl, by decide +kernel, by decide +kernel⟩
abbrev n_difference_of_forms : List Str := ["left", "right"]
theorem sc_difference_of_forms : FnScope n_difference_of_forms p_difference_of_forms (defScope s_difference_of_forms) := ⟨rfl, rfl, rfl, by decide +kernel, rfl, by decide +kernel, by decide +kernel⟩
abbrev n_used_columns : List Str := ["form", "at", "each"]
theorem sc_used_columns : FnScope n_used_columns p_used_columns (defScope s_used_columns) := ⟨rfl, rfl, rfl, by decide +kernel, rfl, by decide +kernel, by decide +kernel⟩
abbrev n_difference_columns : List Str := ["form", "used", "column", "first", "second"]
theorem sc_difference_columns : FnScope n_difference_columns p_difference_columns (defScope s_difference_columns) := ⟨rfl, rfl, rfl, by decide +kernel, rfl, by decide +kernel, by decide +kernel⟩
abbrev n_range_of_form : List Str := ["form", "box", "coefficients", "low", "high", "pair", "i", "j", "column", "ends", "end"]
theorem sc_range_of_form : FnScope n_range_of_form p_range_of_form (defScope s_range_of_form) := ⟨rfl, rfl, rfl, by decide +kernel, rfl, by decide +kernel, by decide +kernel⟩
abbrev n_occurs : List Str := ["names", "expression", "operand"]
theorem sc_occurs : FnScope n_occurs p_occurs (defScope s_occurs) := ⟨rfl, rfl, rfl, by decide +kernel, rfl, by decide +kernel, by decide +kernel⟩
abbrev n_form_of : List Str := ["expression", "known", "names", "box", "word", "name", "left", "right"]
theorem sc_form_of : FnScope n_form_of p_form_of (defScope s_form_of) := ⟨rfl, rfl, rfl, by decide +kernel, rfl, by decide +kernel, by decide +kernel⟩
abbrev n_product_form : List Str := ["left", "right", "box", "first", "second", "products", "a", "b"]
theorem sc_product_form : FnScope n_product_form p_product_form (defScope s_product_form) := ⟨rfl, rfl, rfl, by decide +kernel, rfl, by decide +kernel, by decide +kernel⟩
abbrev n_l_cell : List Str := ["_law_script", "_law_at"]
theorem sc_l_cell : FnScope n_l_cell p_l_cell (defScope s_l_cell) := ⟨rfl, rfl, rfl, by decide +kernel, rfl, by decide +kernel, by decide +kernel⟩
abbrev n_l_source : List Str := ["_law_cell_here"]
theorem sc_l_source : FnScope n_l_source p_l_source (defScope s_l_source) := ⟨rfl, rfl, rfl, by decide +kernel, rfl, by decide +kernel, by decide +kernel⟩
abbrev n_l_pick : List Str := ["_law_source_here", "_law_size", "_law_k", "_law_digit", "_law_mixed"]
theorem sc_l_pick : FnScope n_l_pick p_l_pick (defScope s_l_pick) := ⟨rfl, rfl, rfl, by decide +kernel, rfl, by decide +kernel, by decide +kernel⟩
abbrev n_l_one : List Str := ["_law_source_here", "_law_row"]
theorem sc_l_one : FnScope n_l_one p_l_one (defScope s_l_one) := ⟨rfl, rfl, rfl, by decide +kernel, rfl, by decide +kernel, by decide +kernel⟩
abbrev n_l_names : List Str := ["_law_source_here", "_law_style", "_law_names_here", "_law_k", "_law_word"]
theorem sc_l_names : FnScope n_l_names p_l_names (defScope s_l_names) := ⟨rfl, rfl, rfl, by decide +kernel, rfl, by decide +kernel, by decide +kernel⟩
abbrev n_l_far : List Str := ["_law_source_here"]
theorem sc_l_far : FnScope n_l_far p_l_far (defScope s_l_far) := ⟨rfl, rfl, rfl, by decide +kernel, rfl, by decide +kernel, by decide +kernel⟩
abbrev n_l_words : List Str := ["_law_source_here", "_law_words_here", "_law_shift"]
theorem sc_l_words : FnScope n_l_words p_l_words (defScope s_l_words) := ⟨rfl, rfl, rfl, by decide +kernel, rfl, by decide +kernel, by decide +kernel⟩
abbrev n_l_order : List Str := ["_law_source_here", "_law_words_here", "_law_ordered", "_law_word"]
theorem sc_l_order : FnScope n_l_order p_l_order (defScope s_l_order) := ⟨rfl, rfl, rfl, by decide +kernel, rfl, by decide +kernel, by decide +kernel⟩
abbrev n_l_number : List Str := ["_law_source_here", "_law_pool", "_law_depth", "_law_choice", "_law_left", "_law_right"]
theorem sc_l_number : FnScope n_l_number p_l_number (defScope s_l_number) := ⟨rfl, rfl, rfl, by decide +kernel, rfl, by decide +kernel, by decide +kernel⟩
abbrev n_l_known : List Str := ["_law_source_here", "_law_words_here", "_law_numbers", "_law_known_here", "_law_word"]
theorem sc_l_known : FnScope n_l_known p_l_known (defScope s_l_known) := ⟨rfl, rfl, rfl, by decide +kernel, rfl, by decide +kernel, by decide +kernel⟩
abbrev n_l_cloud : List Str := ["_law_source_here", "_law_size", "_law_lows", "_law_k", "_law_wide", "_law_many", "_law_points", "_law_turn", "_law_low"]
theorem sc_l_cloud : FnScope n_l_cloud p_l_cloud (defScope s_l_cloud) := ⟨rfl, rfl, rfl, by decide +kernel, rfl, by decide +kernel, by decide +kernel⟩
abbrev n_l_drawn_form : List Str := ["_law_source_here", "_law_size", "_law_row", "_law_style", "_law_k", "_law_at", "_law_pair", "_law_low"]
theorem sc_l_drawn_form : FnScope n_l_drawn_form p_l_drawn_form (defScope s_l_drawn_form) := ⟨rfl, rfl, rfl, by decide +kernel, rfl, by decide +kernel, by decide +kernel⟩
abbrev n_l_box : List Str := ["_law_points", "_law_full", "_law_point", "_law_rows", "_law_i", "_law_j"]
theorem sc_l_box : FnScope n_l_box p_l_box (defScope s_l_box) := ⟨rfl, rfl, rfl, by decide +kernel, rfl, by decide +kernel, by decide +kernel⟩
abbrev n_l_value : List Str := ["_law_expression", "_law_env", "_law_sign", "_law_left", "_law_right"]
theorem sc_l_value : FnScope n_l_value p_l_value (defScope s_l_value) := ⟨rfl, rfl, rfl, by decide +kernel, rfl, by decide +kernel, by decide +kernel⟩
abbrev n_l_has : List Str := ["_law_expression", "_law_names_here", "_law_part"]
theorem sc_l_has : FnScope n_l_has p_l_has (defScope s_l_has) := ⟨rfl, rfl, rfl, by decide +kernel, rfl, by decide +kernel, by decide +kernel⟩
abbrev n_l_spread : List Str := ["_law_form_here", "_law_points", "_law_used", "_law_k", "_law_ends", "_law_plus", "_law_minus", "_law_told", "_law_point", "_law_least", "_law_greatest"]
theorem sc_l_spread : FnScope n_l_spread p_l_spread (defScope s_l_spread) := ⟨rfl, rfl, rfl, by decide +kernel, rfl, by decide +kernel, by decide +kernel⟩
abbrev n_l_corners : List Str := ["_law_expression", "_law_known_here", "_law_names_here", "_law_points", "_law_left", "_law_right"]
theorem sc_l_corners : FnScope n_l_corners p_l_corners (defScope s_l_corners) := ⟨rfl, rfl, rfl, by decide +kernel, rfl, by decide +kernel, by decide +kernel⟩
abbrev n_l_form : List Str := ["_law_expression", "_law_known_here", "_law_names_here", "_law_points", "_law_table"]
theorem sc_l_form : FnScope n_l_form p_l_form (defScope s_l_form) := ⟨rfl, rfl, rfl, by decide +kernel, rfl, by decide +kernel, by decide +kernel⟩
abbrev n_l_add : List Str := ["_law_table", "_law_expression", "_law_factor", "_law_known_here", "_law_names_here", "_law_points", "_law_sign", "_law_row", "_law_at", "_law_value_here", "_law_ends", "_law_told", "_law_end"]
theorem sc_l_add : FnScope n_l_add p_l_add (defScope s_l_add) := ⟨rfl, rfl, rfl, by decide +kernel, rfl, by decide +kernel, by decide +kernel⟩
abbrev n_l_values_at : List Str := ["_law_known_here", "_law_names_here", "_law_point", "_law_values", "_law_k"]
theorem sc_l_values_at : FnScope n_l_values_at p_l_values_at (defScope s_l_values_at) := ⟨rfl, rfl, rfl, by decide +kernel, rfl, by decide +kernel, by decide +kernel⟩
abbrev n_l_same : List Str := ["_law_actual", "_law_due", "_law_k"]
theorem sc_l_same : FnScope n_l_same p_l_same (defScope s_l_same) := ⟨rfl, rfl, rfl, by decide +kernel, rfl, by decide +kernel, by decide +kernel⟩
abbrev n_l_kept : List Str := ["_law_handed", "_law_known_here", "_law_name"]
theorem sc_l_kept : FnScope n_l_kept p_l_kept (defScope s_l_kept) := ⟨rfl, rfl, rfl, by decide +kernel, rfl, by decide +kernel, by decide +kernel⟩
abbrev n_l_asked : List Str := ["_law_expression", "_law_known_here", "_law_names_here", "_law_points", "_law_box_here", "_law_due", "_law_handed", "_law_actual", "_law_ends", "_law_least", "_law_k", "_law_one_here", "_law_greatest", "_law_point", "_law_value_here", "_law_rest"]
theorem sc_l_asked : FnScope n_l_asked p_l_asked (defScope s_l_asked) := ⟨rfl, rfl, rfl, by decide +kernel, rfl, by decide +kernel, by decide +kernel⟩
abbrev n_law : List Str := ["_law_script", "_law_source_here", "_law_words_here", "_law_names_here", "_law_size", "_law_numbers", "_law_expression", "_law_known_here", "_law_other", "_law_points", "_law_others", "_law_part", "_law_first", "_law_inner", "_law_turn", "_law_form_here", "_law_some"]
theorem sc_law : FnScope n_law p_law (defScope s_law) := ⟨rfl, rfl, rfl, by decide +kernel, rfl, by decide +kernel, by decide +kernel⟩
/-! ### a list against the empty one -/
def rEqL0 (K : PySem.W.Frag) (neg : Bool) : R2 := fun x y H Q => ∃ (a b : Addr) (xs : List V), x = .ref a ∧ y = .ref b ∧ SqL K H a xs ∧ SqL K H b [] ∧ Q (.bl (if neg then !xs.isEmpty else xs.isEmpty)) H
theorem op_neL0 {X : Cx} (hu : X.A.units < cLine) : OpR X (compareOp .NotEq) (rEqL0 X.K true) := by
  intro pins s σ H x y v u Q I rx ry h
  obtain ⟨a, b, xs, rfl, rfl, ha, hb, q⟩ := h
  obtain rfl : v = Value.ref a := rx
  obtain rfl : u = Value.ref b := ry
  obtain ⟨its, r1, t1, _⟩ := I.list ha
  obtain ⟨its2, r2, t2, _⟩ := I.list hb
  cases r2
  cases r1 with
  | nil => exact SeqAt.RcNeAt.lists (e := fun _ => true) t1.isList t2.isList rfl hu (fun j h1 h2 => absurd h2 (by simp)) _ _ _ _ ⟨.bl _, H, I, rfl, q⟩
  | cons _ _ => exact SeqAt.RcNeAt.lists_lengths t1.isList t2.isList (by simp) hu _ _ _ _ ⟨.bl _, H, I, rfl, q⟩
theorem op_eqL0 {X : Cx} (hu : X.A.units < cLine) : OpR X (compareOp .Eq) (rEqL0 X.K false) := by
  intro pins s σ H x y v u Q I rx ry h
  obtain ⟨a, b, xs, rfl, rfl, ha, hb, q⟩ := h
  obtain rfl : v = Value.ref a := rx
  obtain rfl : u = Value.ref b := ry
  obtain ⟨its, r1, t1, _⟩ := I.list ha
  obtain ⟨its2, r2, t2, _⟩ := I.list hb
  cases r2
  cases r1 with
  | nil => exact SeqAt.eq_listAt (e := fun _ => true) t1.isList t2.isList rfl hu (fun j h1 h2 => absurd h2 (by simp)) ⟨.bl _, H, I, rfl, q⟩
  | cons _ _ => exact SeqAt.eq_list_lengthsAt t1.isList t2.isList (by simp) hu ⟨.bl _, H, I, rfl, q⟩
/-! ### built-in names -/
theorem bt_int : bootBuiltins "int" = some (.type "int") := by decide +kernel
theorem bt_str : bootBuiltins "str" = some (.type "str") := by decide +kernel
theorem bt_bool : bootBuiltins "bool" = some (.type "bool") := by decide +kernel
theorem bt_tuple : bootBuiltins "tuple" = some (.type "tuple") := by decide +kernel
theorem bt_list : bootBuiltins "list" = some (.type "list") := by decide +kernel
theorem bt_dict : bootBuiltins "dict" = some (.type "dict") := by decide +kernel
theorem bb_max : bootBuiltins "max" = some (.builtin "max") := by decide +kernel
theorem bb_min : bootBuiltins "min" = some (.builtin "min") := by decide +kernel
theorem bb_isinstance : bootBuiltins "isinstance" = some (.builtin "isinstance") := by decide +kernel
/-! ### a source of draws: a list of three ints, which draws alone change -/
def Src (H : Hp) (a : Addr) : Prop := ∃ c m k : Int, H a = some (.lst [.int c, .int m, .int k])
/-- a source stands at a, and nothing else that was tracked has changed -/
structure Stp (a : Addr) (H H' : Hp) : Prop where
  s : Src H' a
  k : ∀ b o, b ≠ a → H b = some o → H' b = some o
theorem Stp.refl {a : Addr} {H : Hp} (h : Src H a) : Stp a H H := ⟨h, fun _ _ _ e => e⟩
theorem Stp.trans {a : Addr} {H H1 H2 : Hp} (x : Stp a H H1) (y : Stp a H1 H2) : Stp a H H2 := ⟨y.s, fun b o hb e => y.k b o hb (x.k b o hb e)⟩
theorem Src.ne {a p : Addr} {H : Hp} (h : Src H a) (n : H p = none) : a ≠ p := by
  obtain ⟨c, m, k, h⟩ := h
  exact ne_of_none h n
theorem Stp.free {a p : Addr} {H H' : Hp} (x : Stp a H H') (n : H' p = none) : H p = none := by
  cases q : H p with
  | none => rfl
  | some o =>
    have ne : p ≠ a := fun z => x.s.ne n z.symm
    rw [x.k p o ne q] at n
    cases n
/-- a new object beside the source -/
theorem Stp.new {a p : Addr} {H H' : Hp} {o : HO} (x : Stp a H H') (n : H' p = none) : Stp a H (upd H' p o) := by
  have ne := x.s.ne n
  obtain ⟨c, m, k, h⟩ := x.s
  refine ⟨⟨c, m, k, by rw [upd_ne ne]; exact h⟩, fun b u hb e => ?_⟩
  have e' := x.k b u hb e
  rw [upd_ne (ne_of_none e' n)]
  exact e'
theorem Stp.same {a : Addr} {H H' H2 : Hp} (x : Stp a H H') (s : Same H' H2) : Stp a H H2 := by
  obtain ⟨c, m, k, h⟩ := x.s
  exact ⟨⟨c, m, k, s _ _ h⟩, fun b o hb e => s b o (x.k b o hb e)⟩
theorem Stp.of_same {a : Addr} {H H' : Hp} (h : Src H a) (s : Same H H') : Stp a H H' := (Stp.refl h).same s
theorem Same.new {H : Hp} {p : Addr} (h : H p = none) (o : HO) : Same H (upd H p o) := fun b u q => by rw [upd_ne (ne_of_none q h)]; exact q
/-- a source that is new ahead of its draws: all that was tracked stands -/
theorem Stp.fresh {a : Addr} {H H1 H2 : Hp} (s : Same H H1) (n : H a = none) (x : Stp a H1 H2) : Same H H2 := fun b o e => x.k b o (ne_of_none e n) (s b o e)
theorem Stp.rd {K : PySem.W.Frag} {a p : Addr} {H H' : Hp} {xs : List V} (x : Stp a H H') (h : SqT K H p xs) (hs : Src H a) : SqT K H' p xs := by
  obtain ⟨c, m, k, hs⟩ := hs
  rcases h with (h | ⟨o, h⟩) | h
  · exact .inl (.inl (x.k _ _ (ne_of h hs (by intro z; cases z)) h))
  · exact .inl (.inr ⟨o, x.k _ _ (ne_of h hs (by intro z; cases z)) h⟩)
  · exact .inr h
theorem Stp.rdL {K : PySem.W.Frag} {a p : Addr} {H H' : Hp} {xs : List V} (x : Stp a H H') (h : SqL K H p xs) (ne : p ≠ a) : SqL K H' p xs := by
  rcases h with (h | ⟨o, h⟩) | h
  · exact .inl (.inl (x.k _ _ ne h))
  · exact .inl (.inr ⟨o, x.k _ _ ne h⟩)
  · exact .inr h
theorem Same.tup {K : PySem.W.Frag} {p : Addr} {H H' : Hp} {xs : List V} (x : Same H H') (h : SqT K H p xs) : SqT K H' p xs := by
  rcases h with (h | ⟨o, h⟩) | h
  · exact .inl (.inl (x _ _ h))
  · exact .inl (.inr ⟨o, x _ _ h⟩)
  · exact .inr h
/-! ### numbers -/
theorem ifT {c : Bool} {A B : Prop} (h : c = true) (a : A) : if c = true then A else B := by rw [if_pos h]; exact a
theorem ifF {c : Bool} {A B : Prop} (h : c = false) (b : B) : if c = true then A else B := by rw [h]; exact iteF b
theorem fmod_bd {x m : Int} (h : 0 < m) : 0 ≤ x.fmod m ∧ x.fmod m < m := ⟨Int.fmod_nonneg_of_pos x h, Int.fmod_lt_of_pos x h⟩
theorem fm64 {x m : Int} (h : 0 < m) (h2 : m ≤ 2 ^ 64) : -(2 ^ 64) < x.fmod m ∧ x.fmod m < 2 ^ 64 :=
  ⟨Int.lt_of_lt_of_le (by decide) (fmod_bd h).1, Int.lt_of_lt_of_le (fmod_bd h).2 h2⟩
theorem atI_int {α : Type} {xs : List α} {r : Int} (h0 : 0 ≤ r) (h : r.toNat < xs.length) : atI xs r = some xs[r.toNat] := by
  have e := atI_nat (xs := xs) (j := r.toNat) (List.getElem?_eq_getElem h)
  rwa [Int.toNat_of_nonneg h0] at e
/-! ### the promises of the draws -/
def spCell (K : PySem.W.Frag) : Sp := fun vs H Q _ => ∃ (l : Addr) (ns : List Int) (j : Int), vs = [.ref l, .int j] ∧ SqL K H l (ns.map V.int) ∧ 0 ≤ j ∧ ∀ i : Int, Q (.int i) H
def spSource : Sp := fun vs H Q _ => ∃ c : Int, vs = [.int c] ∧ ∀ p H', H p = none → Same H H' → Src H' p → Q (.ref p) H'
def spPick : Sp := fun vs H Q _ => ∃ (a : Addr) (n : Int), vs = [.ref a, .int n] ∧ Src H a ∧ n < 1073741824 ∧ ∀ (r : Int) (H' : Hp), Stp a H H' → 0 ≤ r → (r < n ∨ r = 0) → Q (.int r) H'
def spOne (K : PySem.W.Frag) : Sp := fun vs H Q _ => ∃ (a : Addr) (row : V), vs = [.ref a, row] ∧ Src H a ∧
  ((∃ (p : Addr) (xs : List V), row = .ref p ∧ p ≠ a ∧ SqL K H p xs ∧ 0 < xs.length ∧ xs.length < 1000 ∧ ∀ v H', v ∈ xs → Stp a H H' → Q v H') ∨
   (∃ z : Str, row = .str z ∧ 0 < z.length ∧ z.length < 1000 ∧ ∀ (c : Nat) H', c ∈ z.cps.toList → Stp a H H' → Q (.str ⟨#[c]⟩) H'))
section
variable {P : Program} {w : World} {K : PySem.W.Frag} {mg : Str → Option Value} {base : Heap}
theorem ok_l_cell (T : Txt w K mg) : FnOk P w K mg base CX0 1 T.a_l_cell T.d_l_cell p_l_cell (spCell K) := by
  refine T.F_l_cell.ok sc_l_cell (fun vs H Q E h => ?_) (fun cdv A outer s H vs Q E hr h => ?_)
  · obtain ⟨l, ns, j, rfl, _⟩ := h
    rfl
  obtain ⟨l, ns, j, rfl, hS, h0, q⟩ := h
  refine ⟨_, (pss_cons (ps_if (pt_cmpR op_lt (pv 1) (pe_callB call_len_seq rfl T.z_len PySem.boot_len (pa_cons (pv 0) pa_nil)) (nomark _)) (pss_one (ps_ret (pe_ix ix_list (pv 0) (pv 1) (fun _ _ => rfl)))) pss_nil)
      (pss_one (ps_ret pe_int))), ?_⟩
  have hl : (ns.map V.int).length = ns.length := List.length_map _
  refine ⟨_, rfl, _, rfl, l, _, rfl, .inl hS, _, _, rfl, rfl, _, rfl, ?_⟩
  refine ite2 (fun c => ?_) (fun c => ?_)
  · have c' : j < (((ns.map V.int).length : Nat) : Int) := of_decide_eq_true c
    rw [hl] at c'
    have hk : j.toNat < ns.length := by omega
    have e := atI_int (xs := ns.map V.int) h0 (by omega)
    rw [List.getElem_map] at e
    exact ⟨_, rfl, _, rfl, l, _, _, _, rfl, rfl, hS, e, q _⟩
  · exact q 0
theorem ok_l_source (T : Txt w K mg) : FnOk P w K mg base CX0 1 T.a_l_source T.d_l_source p_l_source spSource := by
  refine T.F_l_source.ok sc_l_source (fun vs H Q E h => ?_) (fun cdv A outer s H vs Q E hr h => ?_)
  · obtain ⟨c, rfl, _⟩ := h
    rfl
  obtain ⟨c, rfl, q⟩ := h
  refine ⟨_, (pss_one (ps_ret (pe_lst (pa_cons (pv 0) (pa_cons (pv 0) (pa_cons pe_int pa_nil)))))), ?_⟩
  refine ⟨_, rfl, _, rfl, (by show 3 ≤ sizeLine; decide), fun p hp => ?_⟩
  exact q p _ hp (Same.new hp _) ⟨c, c, 0, upd_same⟩
theorem ok_l_pick (T : Txt w K mg) : FnOk P w K mg base CX0 1 T.a_l_pick T.d_l_pick p_l_pick spPick := by
  refine T.F_l_pick.ok sc_l_pick (fun vs H Q E h => ?_) (fun cdv A outer s H vs Q E hr h => ?_)
  · obtain ⟨a, n, rfl, _⟩ := h
    rfl
  obtain ⟨a, n, rfl, ⟨c, m, k, hS⟩, hn, q⟩ := h
  refine ⟨_, (pss_cons (ps_set (i := 2) sc_l_pick.nd rfl (Or.inl rfl) (pe_ix ix_list (pv 0) pe_int (fun _ _ => rfl)))
      (pss_cons (ps_asg (pe_op op_add (pv 2) pe_int) (pg_sub (pv 0) pe_int set_list))
      (pss_cons (ps_if (pt_cmpR op_lt (pv 1) pe_int (nomark _)) (pss_one (ps_ret pe_int)) pss_nil)
      (pss_cons (ps_if (PW.pt (pw_and (pt_cmpR op_ge (pe_ix ix_list (pv 0) pe_int (fun _ _ => rfl)) (pe_op op_pow pe_int pe_int) (nomark _)) (pw_and1 (pt_cmpR op_gt (pe_ix ix_list (pv 0) pe_int (fun _ _ => rfl)) pe_int (nomark _))))) (pss_cons (ps_set (i := 3) sc_l_pick.nd rfl (Or.inl rfl) (pe_op op_modN (pe_callTy call_int1 rfl T.z_int bt_int (pa_cons (pe_ix ix_list (pv 0) pe_int (fun _ _ => rfl)) pa_nil)) (pv 1)))
      (pss_cons (ps_asg (pe_op op_fdivN (pe_ix ix_list (pv 0) pe_int (fun _ _ => rfl)) (pv 1)) (pg_sub (pv 0) pe_int set_list))
      (pss_one (ps_ret (pv 3))))) pss_nil)
      (pss_cons (ps_set (i := 4) sc_l_pick.nd rfl (Or.inl rfl) (pe_op op_modN (pe_callTy call_int1 rfl T.z_int bt_int (pa_cons (pe_op op_add (pe_op op_add (pe_ix ix_list (pv 0) pe_int (fun _ _ => rfl)) (pe_op op_mul pe_int (pv 2))) pe_int) pa_nil)) pe_int))
      (pss_cons (ps_set (i := 4) sc_l_pick.nd rfl (Or.inl rfl) (pe_op op_modN (pe_callTy call_int1 rfl T.z_int bt_int (pa_cons (pe_op op_mul (pv 4) (pe_op op_add (pv 4) pe_int)) pa_nil)) pe_int))
      (pss_cons (ps_set (i := 4) sc_l_pick.nd rfl (Or.inl rfl) (pe_op op_modN (pe_callTy call_int1 rfl T.z_int bt_int (pa_cons (pe_op op_add (pe_op op_mul (pv 4) (pe_op op_add (pv 4) pe_int)) (pe_op op_mul pe_int (pv 2))) pa_nil)) pe_int))
      (pss_one (ps_ret (pe_op op_modN (pe_callTy call_int1 rfl T.z_int bt_int (pa_cons (pe_op op_fdivN (pv 4) pe_int) pa_nil)) (pv 1))))))))))), ?_⟩
  refine ⟨_, rfl, a, _, 2, _, rfl, rfl, SqL.of hS, rfl, ?_⟩
  refine ⟨_, rfl, k, 1, rfl, rfl, _, rfl, a, _, 2, 2, rfl, rfl, hS, rfl, ?_⟩
  have h1 : (upd H a (.lst [.int c, .int m, .int (k + 1)])) a = some (.lst [.int c, .int m, .int (k + 1)]) := upd_same
  have st : Stp a H (upd H a (.lst [.int c, .int m, .int (k + 1)])) := ⟨⟨c, m, k + 1, upd_same⟩, fun b o hb e => by rw [upd_ne hb]; exact e⟩
  refine ⟨_, rfl, n, 2, rfl, rfl, _, rfl, ?_⟩
  refine ite2 (fun _ => ?_) (fun c2 => ?_)
  · exact q 0 _ st (Int.le_refl 0) (.inr rfl)
  have hn2 : ¬ n < 2 := of_decide_eq_false (Bool.eq_false_iff.mpr c2)
  refine ⟨_, rfl, a, _, 0, _, rfl, rfl, SqL.of h1, rfl, 10, 18, rfl, rfl, ⟨by decide, by decide, by decide⟩, _, _, rfl, rfl, _, rfl, ?_⟩
  refine ite2 (fun _ => ⟨_, rfl, a, _, 1, _, rfl, rfl, SqL.of h1, rfl, _, _, rfl, rfl, _, rfl, ite2 (fun _ => ?first) (fun _ => ?second)⟩) (fun _ => iteF ?third)
  case first =>
    refine ⟨_, rfl, a, _, 1, _, rfl, rfl, SqL.of h1, rfl, .inl ⟨_, rfl, ?_⟩⟩
    refine ⟨_, rfl, _, _, rfl, rfl, by omega, ?_⟩
    refine ⟨_, rfl, a, _, 1, _, rfl, rfl, SqL.of h1, rfl, _, rfl, m, n, rfl, rfl, ⟨by omega, by omega⟩, _, rfl, a, _, 1, 1, rfl, rfl, h1, rfl, ?_⟩
    refine ⟨_, rfl, ?_⟩
    have b := fmod_bd (x := m) (m := n) (by omega)
    refine q _ _ ⟨⟨c, m.fdiv n, k + 1, upd_same⟩, fun b o hb e => ?_⟩ b.1 (.inl b.2)
    rw [upd_ne hb]
    exact st.k b o hb e
  all_goals
    refine ⟨_, rfl, a, _, 0, _, rfl, rfl, SqL.of h1, rfl, _, rfl, 7919, k, rfl, rfl, .inl ⟨by decide, by decide⟩, _, _, rfl, rfl, _, _, rfl, rfl, .inl ⟨_, rfl, ?_⟩⟩
    refine ⟨_, _, rfl, rfl, (by intro z; cases z), ?_⟩
    refine ⟨_, rfl, _, rfl, _, _, rfl, rfl, _, _, rfl, rfl, .inl (fm64 (by decide) (by decide)), .inl ⟨_, rfl, ?_⟩⟩
    refine ⟨_, _, rfl, rfl, (by intro z; cases z), ?_⟩
    refine ⟨_, rfl, _, rfl, _, _, rfl, rfl, _, _, rfl, rfl, .inl (fm64 (by decide) (by decide)), _, rfl, 31, k, rfl, rfl, .inl ⟨by decide, by decide⟩, _, _, rfl, rfl, .inl ⟨_, rfl, ?_⟩⟩
    refine ⟨_, _, rfl, rfl, (by intro z; cases z), ?_⟩
    refine ⟨_, rfl, _, _, rfl, rfl, ⟨by decide, by decide⟩, .inl ⟨_, rfl, ?_⟩⟩
    refine ⟨_, rfl, _, _, rfl, rfl, (by omega), ?_⟩
    exact q _ _ st (fmod_bd (by omega)).1 (.inl (fmod_bd (by omega)).2)
theorem ok_l_one (T : Txt w K mg) : FnOk P w K mg base CX0 2 T.a_l_one T.d_l_one p_l_one (spOne K) := by
  have g_l_pick := ok_l_pick (P := P) (w := w) (base := base) T
  refine T.F_l_one.ok sc_l_one (fun vs H Q E h => ?_) (fun cdv A outer s H vs Q E hr h => ?_)
  · obtain ⟨a, row, rfl, _⟩ := h
    rfl
  obtain ⟨a, row, rfl, hS, h⟩ := h
  refine ⟨_, (pss_one (ps_ret (pe_ix ix_seq (pv 1) (pe_call g_l_pick (hr.mono (by first | decide | omega)) rfl T.m_l_pick T.F_l_pick.kp T.b_l_pick .nil pass0 (pa_cons (pv 0) (pa_cons (pe_callB call_len rfl T.z_len PySem.boot_len (pa_cons (pv 1) pa_nil)) pa_nil))) (fun _ _ => rfl)))), ?_⟩
  rcases h with ⟨p, xs, rfl, ne, hx, h0, h9, q⟩ | ⟨z, rfl, h0, h9, q⟩
  · refine ⟨_, rfl, _, rfl, _, rfl, .ref p, xs.length, rfl, .inl ⟨_, hx, rfl⟩, ?_⟩
    refine ⟨a, _, rfl, hS, by omega, fun r H' st r0 r1 => ?_⟩
    have hr' : r.toNat < xs.length := by omega
    have e := atI_int (xs := xs) r0 hr'
    exact .inl ⟨p, xs, r, _, rfl, rfl, st.rdL hx ne, e, q _ _ (List.getElem_mem hr') st⟩
  · refine ⟨_, rfl, _, rfl, _, rfl, .str z, z.length, rfl, ⟨Nat.le_of_lt (small1000 (by omega)), rfl⟩, ?_⟩
    refine ⟨a, _, rfl, hS, by omega, fun r H' st r0 r1 => ?_⟩
    have ez : z.length = z.cps.toList.length := by simp [Str.length]
    have hr' : r.toNat < z.cps.toList.length := by omega
    have e := atI_int (xs := z.cps.toList) r0 hr'
    exact .inr (.inr ⟨z, r, _, rfl, rfl, Nat.le_of_lt (small1000 (by omega)), e, q _ _ (List.getElem_mem hr') st⟩)
end
/-! ### data: equal data are the same to _law_same -/
def Dok : Nat → PyData → Prop
  | 0, _ => False
  | _ + 1, .none => True
  | _ + 1, .bool _ => True
  | _ + 1, .int _ => True
  | _ + 1, .str _ => True
  | n + 1, .tuple ds => ds.length ≤ 100000 ∧ ∀ d ∈ ds, Dok n d
  | n + 1, .list ds => ds.length ≤ 100000 ∧ ∀ d ∈ ds, Dok n d
  | _ + 1, .dict _ => False
theorem dpAll_len {K : PySem.W.Frag} {H : Hp} : ∀ {vs : List V} {ds : List PyData}, DpAll K H vs ds → vs.length = ds.length
  | _, _, .nil => rfl
  | _, _, .cons _ r => congrArg (· + 1) (dpAll_len r)
theorem dpAll_get {K : PySem.W.Frag} {H : Hp} : ∀ {vs : List V} {ds : List PyData} {i : Nat} {d : PyData}, DpAll K H vs ds → ds[i]? = some d → ∃ v, vs[i]? = some v ∧ Dp K H v d
  | _, _, _, _, .nil, e => by simp at e
  | _, _, 0, d, .cons h _, e => by
    simp at e
    subst e
    exact ⟨_, rfl, h⟩
  | _, _, i + 1, d, .cons _ r, e => by
    obtain ⟨v, h1, h2⟩ := dpAll_get (i := i) r (by simpa using e)
    exact ⟨v, by simpa using h1, h2⟩
theorem tyL {K : PySem.W.Frag} {H : Hp} {a : Addr} {xs : List V} (h : SqL K H a xs) : TyX K H (.ref a) (.type "list") := by
  rcases h with (h | ⟨o, h⟩) | ⟨o, its, n, h, c, _⟩
  · exact .base (.lst h)
  · exact .base (.frz h)
  · exact .kList h c
theorem tyT {K : PySem.W.Frag} {H : Hp} {a : Addr} {xs : List V} (h : SqT K H a xs) : TyX K H (.ref a) (.type "tuple") := by
  rcases h with (h | ⟨o, h⟩) | ⟨o, its, n, h, c, _⟩
  · exact .base (.tup h)
  · exact .fTuple h
  · exact .kTuple h c
theorem isi {K : PySem.W.Frag} {H : Hp} {Q : VK} {x : V} {t c : String} (b : Bool) (ty : TyX K H x (.type t)) (kb : kitB t c = some b) (q : Q (.bl b) H) : rIsi K [x, .ty c] H Q := ⟨x, .ty c, _, _, b, rfl, .ty c, ty, kit_ty kb, q⟩
theorem kb_nt : kitB "NoneType" "tuple" = some false := by decide +kernel
theorem kb_nl : kitB "NoneType" "list" = some false := by decide +kernel
theorem kb_bt : kitB "bool" "tuple" = some false := by decide +kernel
theorem kb_bl : kitB "bool" "list" = some false := by decide +kernel
theorem kb_bb : kitB "bool" "bool" = some true := by decide +kernel
theorem kb_it : kitB "int" "tuple" = some false := by decide +kernel
theorem kb_il : kitB "int" "list" = some false := by decide +kernel
theorem kb_ib : kitB "int" "bool" = some false := by decide +kernel
theorem kb_ii : kitB "int" "int" = some true := by decide +kernel
theorem kb_st : kitB "str" "tuple" = some false := by decide +kernel
theorem kb_sl : kitB "str" "list" = some false := by decide +kernel
theorem kb_sb : kitB "str" "bool" = some false := by decide +kernel
theorem kb_si : kitB "str" "int" = some false := by decide +kernel
theorem kb_ss : kitB "str" "str" = some true := by decide +kernel
theorem kb_tt : kitB "tuple" "tuple" = some true := by decide +kernel
theorem kb_tl : kitB "tuple" "list" = some false := by decide +kernel
theorem kb_lt : kitB "list" "tuple" = some false := by decide +kernel
theorem kb_ll : kitB "list" "list" = some true := by decide +kernel
def spSame (K : PySem.W.Frag) (n : Nat) : Sp := fun vs H Q _ => ∃ (x y : V) (d : PyData), vs = [x, y] ∧ Dp K H x d ∧ Dp K H y d ∧ Dok n d ∧ Q (.bl true) H
section
variable {P : Program} {w : World} {K : PySem.W.Frag} {mg : Str → Option Value} {base : Heap}
theorem ok_l_same0 (T : Txt w K mg) : FnOk P w K mg base CX0 0 T.a_l_same T.d_l_same p_l_same (spSame K 0) := by
  have no : ∀ vs H Q E, ¬ spSame K 0 vs H Q E := fun vs H Q E h => by
    obtain ⟨x, y, d, _, _, _, h, _⟩ := h
    exact h
  exact ⟨fun vs H Q E h => absurd h (no vs H Q E), fun A outer s H args us vs Q E _ _ _ _ h => absurd h (no vs H Q E)⟩
/-- the part for two lists or two tuples -/
theorem same_seq {n : Nat} {H : Hp} {p r : Addr} {xs ys : List V} {ds : List PyData} (h1 : SqL K H p xs ∨ SqT K H p xs) (h2 : SqL K H r ys ∨ SqT K H r ys) (d1 : DpAll K H xs ds) (d2 : DpAll K H ys ds)
    (hd : ∀ d ∈ ds, Dok n d) {i : Nat} (hi : i < ds.length) {R : V → Hp → Prop} (q : R (.bl true) H) :
    tCall (spSame K n) [] E0 (tCons (tOp (rIx K) (tVar 0) (tVar 2)) (tCons (tOp (rIx K) (tVar 1) (tVar 2)) tNil)) [some (.ref p), some (.ref r), some (.int (0 + (i : Int)))] H R := by
  obtain ⟨x, e1, q1⟩ := dpAll_get (i := i) d1 (List.getElem?_eq_getElem hi)
  obtain ⟨y, e2, q2⟩ := dpAll_get (i := i) d2 (List.getElem?_eq_getElem hi)
  have a1 : atI xs (0 + (i : Int)) = some x := by rw [Int.zero_add]; exact atI_nat e1
  have a2 : atI ys (0 + (i : Int)) = some y := by rw [Int.zero_add]; exact atI_nat e2
  have k2 : tOp (rIx K) (tVar 1) (tVar 2) [some (.ref p), some (.ref r), some (.int (0 + (i : Int)))] H (fun v H' => tNil [some (.ref p), some (.ref r), some (.int (0 + (i : Int)))] H' fun vs H'' => spSame K n ((x :: v :: vs) ++ []) H'' R E0) := by
    refine ⟨_, rfl, _, rfl, ?_⟩
    have z : spSame K n [x, y] H R E0 := ⟨x, y, _, rfl, q1, q2, hd _ (List.getElem_mem hi), q⟩
    rcases h2 with h2 | h2
    · exact .inl ⟨r, _, _, _, rfl, rfl, h2, a2, z⟩
    · exact .inr (.inl ⟨r, _, _, _, rfl, rfl, h2, a2, z⟩)
  refine ⟨_, rfl, _, rfl, ?_⟩
  rcases h1 with h1 | h1
  · exact .inl ⟨p, _, _, _, rfl, rfl, h1, a1, k2⟩
  · exact .inr (.inl ⟨p, _, _, _, rfl, rfl, h1, a1, k2⟩)
theorem ok_l_same (T : Txt w K mg) : ∀ n : Nat, FnOk P w K mg base CX0 n T.a_l_same T.d_l_same p_l_same (spSame K n)
  | 0 => ok_l_same0 T
  | n + 1 => by
    have g_l_same := ok_l_same T n
    refine T.F_l_same.ok sc_l_same (fun vs H Q E h => ?_) (fun cdv A outer s H vs Q E hr h => ?_)
    · obtain ⟨x, y, d, rfl, _⟩ := h
      rfl
    obtain ⟨x, y, d, rfl, hx, hy, hd, q⟩ := h
    refine ⟨_, (pss_cons (ps_if (PW.pt (pw_or (pt_val (pe_callB call_isi rfl T.z_isinstance bb_isinstance (pa_cons (pv 1) (pa_cons (pe_bltn (v := .ty "tuple") rfl T.z_tuple bt_tuple rfl) pa_nil)))) (pw_or1 (pt_val (pe_callB call_isi rfl T.z_isinstance bb_isinstance (pa_cons (pv 1) (pa_cons (pe_bltn (v := .ty "list") rfl T.z_list bt_list rfl) pa_nil))))))) (pss_cons (ps_if (PW.pt (pw_or (pt_cmpR op_ne (pe_callB call_isi rfl T.z_isinstance bb_isinstance (pa_cons (pv 1) (pa_cons (pe_bltn (v := .ty "tuple") rfl T.z_tuple bt_tuple rfl) pa_nil))) (pe_callB call_isi rfl T.z_isinstance bb_isinstance (pa_cons (pv 0) (pa_cons (pe_bltn (v := .ty "tuple") rfl T.z_tuple bt_tuple rfl) pa_nil))) (nomark _)) (pw_or1 (pt_cmpR op_ne (pe_callB call_isi rfl T.z_isinstance bb_isinstance (pa_cons (pv 1) (pa_cons (pe_bltn (v := .ty "list") rfl T.z_list bt_list rfl) pa_nil))) (pe_callB call_isi rfl T.z_isinstance bb_isinstance (pa_cons (pv 0) (pa_cons (pe_bltn (v := .ty "list") rfl T.z_list bt_list rfl) pa_nil))) (nomark _))))) (pss_one (ps_ret pe_bl)) pss_nil)
      (pss_cons (ps_if (pt_cmpR op_ne (pe_callB call_len_seq rfl T.z_len PySem.boot_len (pa_cons (pv 0) pa_nil)) (pe_callB call_len_seq rfl T.z_len PySem.boot_len (pa_cons (pv 1) pa_nil)) (nomark _)) (pss_one (ps_ret pe_bl)) pss_nil)
      (pss_cons (ps_for PassesOwn.never rfl (pi_range1 rfl T.z_range (pa_cons (pe_callB call_len_seq rfl T.z_len PySem.boot_len (pa_cons (pv 1) pa_nil)) pa_nil)) (pg_name (i := 2) sc_l_same.nd rfl (Or.inl rfl))
        (pss_one (ps_if (pt_not (pt_val (pe_call g_l_same (hr.mono (by first | decide | omega)) rfl T.m_l_same T.F_l_same.kp T.b_l_same .nil pass0 (pa_cons (pe_ix ix_seq (pv 0) (pv 2) (fun _ _ => rfl)) (pa_cons (pe_ix ix_seq (pv 1) (pv 2) (fun _ _ => rfl)) pa_nil))))) (pss_one (ps_ret pe_bl)) pss_nil)))
      (pss_one (ps_ret pe_bl))))) pss_nil)
      (pss_cons (ps_if (pt_cmpR op_isN (pv 1) pe_non (nomark _)) (pss_one (ps_ret (pe_cmpR op_isN (pv 0) pe_non (nomark _)))) pss_nil)
      (pss_cons (ps_if (pt_val (pe_callB call_isi rfl T.z_isinstance bb_isinstance (pa_cons (pv 1) (pa_cons (pe_bltn (v := .ty "bool") rfl T.z_bool bt_bool rfl) pa_nil)))) (pss_one (ps_ret (pe_and (pe_callB call_isi rfl T.z_isinstance bb_isinstance (pa_cons (pv 0) (pa_cons (pe_bltn (v := .ty "bool") rfl T.z_bool bt_bool rfl) pa_nil))) (pe_one (pe_cmpR op_eq (pv 0) (pv 1) (nomark _)))))) pss_nil)
      (pss_cons (ps_if (pt_val (pe_callB call_isi rfl T.z_isinstance bb_isinstance (pa_cons (pv 1) (pa_cons (pe_bltn (v := .ty "int") rfl T.z_int bt_int rfl) pa_nil)))) (pss_one (ps_ret (pe_and (pe_callB call_isi rfl T.z_isinstance bb_isinstance (pa_cons (pv 0) (pa_cons (pe_bltn (v := .ty "int") rfl T.z_int bt_int rfl) pa_nil))) (pe_and (pe_not (pe_callB call_isi rfl T.z_isinstance bb_isinstance (pa_cons (pv 0) (pa_cons (pe_bltn (v := .ty "bool") rfl T.z_bool bt_bool rfl) pa_nil)))) (pe_one (pe_cmpR op_eq (pv 0) (pv 1) (nomark _))))))) pss_nil)
      (pss_one (ps_ret (pe_and (pe_callB call_isi rfl T.z_isinstance bb_isinstance (pa_cons (pv 0) (pa_cons (pe_bltn (v := .ty "str") rfl T.z_str bt_str rfl) pa_nil))) (pe_one (pe_cmpR op_eq (pv 0) (pv 1) (nomark _)))))))))), ?_⟩
    cases hx with
    | non =>
      cases hy
      refine ⟨_, rfl, _, _, _, _, false, rfl, .ty _, (.base .non), kit_ty kb_nt, ⟨_, rfl, iteF ⟨_, rfl, _, _, _, _, false, rfl, .ty _, (.base .non), kit_ty kb_nl, ⟨_, rfl, iteF ?_⟩⟩⟩⟩
      refine ⟨_, rfl, rfl, _, rfl, iteT ?_⟩
      exact ⟨_, rfl, rfl, q⟩
    | bl b =>
      cases hy
      refine ⟨_, rfl, _, _, _, _, false, rfl, .ty _, (.base (.bl _)), kit_ty kb_bt, ⟨_, rfl, iteF ⟨_, rfl, _, _, _, _, false, rfl, .ty _, (.base (.bl _)), kit_ty kb_bl, ⟨_, rfl, iteF ?_⟩⟩⟩⟩
      refine ⟨_, rfl, rfl, _, rfl, iteF ?_⟩
      refine ⟨_, rfl, _, _, _, _, true, rfl, .ty _, (.base (.bl _)), kit_ty kb_bb, ⟨_, rfl, iteT ?_⟩⟩
      refine ⟨_, rfl, _, _, _, _, true, rfl, .ty _, (.base (.bl _)), kit_ty kb_bb, ⟨_, rfl, iteT ?_⟩⟩
      refine ⟨_, rfl, _, rfl, rfl, ?_⟩
      rw [decide_eq_true rfl]
      exact q
    | int b =>
      cases hy
      refine ⟨_, rfl, _, _, _, _, false, rfl, .ty _, (.base (.int _)), kit_ty kb_it, ⟨_, rfl, iteF ⟨_, rfl, _, _, _, _, false, rfl, .ty _, (.base (.int _)), kit_ty kb_il, ⟨_, rfl, iteF ?_⟩⟩⟩⟩
      refine ⟨_, rfl, rfl, _, rfl, iteF ?_⟩
      refine ⟨_, rfl, _, _, _, _, false, rfl, .ty _, (.base (.int _)), kit_ty kb_ib, ⟨_, rfl, iteF ?_⟩⟩
      refine ⟨_, rfl, _, _, _, _, true, rfl, .ty _, (.base (.int _)), kit_ty kb_ii, ⟨_, rfl, iteT ?_⟩⟩
      refine ⟨_, rfl, _, _, _, _, true, rfl, .ty _, (.base (.int _)), kit_ty kb_ii, ⟨_, rfl, iteT ?_⟩⟩
      refine ⟨_, rfl, _, _, _, _, false, rfl, .ty _, (.base (.int _)), kit_ty kb_ib, ⟨_, rfl, _, rfl, iteT ?_⟩⟩
      refine ⟨_, rfl, _, rfl, rfl, ?_⟩
      rw [decide_eq_true rfl]
      exact q
    | str b =>
      cases hy
      refine ⟨_, rfl, _, _, _, _, false, rfl, .ty _, (.base (.str _)), kit_ty kb_st, ⟨_, rfl, iteF ⟨_, rfl, _, _, _, _, false, rfl, .ty _, (.base (.str _)), kit_ty kb_sl, ⟨_, rfl, iteF ?_⟩⟩⟩⟩
      refine ⟨_, rfl, rfl, _, rfl, iteF ?_⟩
      refine ⟨_, rfl, _, _, _, _, false, rfl, .ty _, (.base (.str _)), kit_ty kb_sb, ⟨_, rfl, iteF ?_⟩⟩
      refine ⟨_, rfl, _, _, _, _, false, rfl, .ty _, (.base (.str _)), kit_ty kb_si, ⟨_, rfl, iteF ?_⟩⟩
      refine ⟨_, rfl, _, _, _, _, true, rfl, .ty _, (.base (.str _)), kit_ty kb_ss, ⟨_, rfl, iteT ?_⟩⟩
      refine ⟨_, rfl, _, rfl, rfl, ?_⟩
      rw [decide_eq_true rfl]
      exact q
    | @lst p xs ds h1 d1 =>
      cases hy with
      | @lst r ys _ h2 d2 =>
      have l1 := dpAll_len d1
      have l2 := dpAll_len d2
      obtain ⟨hlen, hd⟩ := hd
      refine ⟨_, rfl, _, _, _, _, false, rfl, .ty _, (tyL h2), kit_ty kb_lt, ⟨_, rfl, iteF ⟨_, rfl, _, _, _, _, true, rfl, .ty _, (tyL h2), kit_ty kb_ll, ⟨_, rfl, iteT ?_⟩⟩⟩⟩
      refine ⟨_, rfl, _, _, _, _, false, rfl, .ty _, (tyL h2), kit_ty kb_lt, ⟨_, rfl, _, _, _, _, false, rfl, .ty _, (tyL h1), kit_ty kb_lt, ⟨rfl, _, rfl, iteF ?_⟩⟩⟩
      refine ⟨_, rfl, _, _, _, _, true, rfl, .ty _, (tyL h2), kit_ty kb_ll, ⟨_, rfl, _, _, _, _, true, rfl, .ty _, (tyL h1), kit_ty kb_ll, ⟨rfl, _, rfl, iteF ?_⟩⟩⟩
      refine ⟨_, rfl, p, _, rfl, .inl h1, _, rfl, r, _, rfl, .inl h2, rfl, _, rfl, ?_⟩
      refine iteNS (congrArg V.int (by omega)) ?_
      refine ⟨_, rfl, r, _, rfl, .inl h2, _, rfl, by omega, by omega, for_range (lo := 0) (fun i σ H' => H' = H ∧ ∃ v : Option V, σ = [some (.ref p), some (.ref r), v]) ⟨rfl, none, rfl⟩ ?_ ?_⟩
      · rintro i σ H' hi ⟨rfl, v, rfl⟩
        refine same_seq (.inl h1) (.inl h2) d1 d2 hd (by omega) ⟨_, rfl, iteF ?_⟩
        exact ⟨rfl, _, rfl⟩
      · rintro σ H' ⟨rfl, v, rfl⟩
        exact q
    | @tup p xs ds h1 d1 =>
      cases hy with
      | @tup r ys _ h2 d2 =>
      have l1 := dpAll_len d1
      have l2 := dpAll_len d2
      obtain ⟨hlen, hd⟩ := hd
      refine ⟨_, rfl, _, _, _, _, true, rfl, .ty _, (tyT h2), kit_ty kb_tt, ⟨_, rfl, iteT ?_⟩⟩
      refine ⟨_, rfl, _, _, _, _, true, rfl, .ty _, (tyT h2), kit_ty kb_tt, ⟨_, rfl, _, _, _, _, true, rfl, .ty _, (tyT h1), kit_ty kb_tt, ⟨rfl, _, rfl, iteF ?_⟩⟩⟩
      refine ⟨_, rfl, _, _, _, _, false, rfl, .ty _, (tyT h2), kit_ty kb_tl, ⟨_, rfl, _, _, _, _, false, rfl, .ty _, (tyT h1), kit_ty kb_tl, ⟨rfl, _, rfl, iteF ?_⟩⟩⟩
      refine ⟨_, rfl, p, _, rfl, .inr h1, _, rfl, r, _, rfl, .inr h2, rfl, _, rfl, ?_⟩
      refine iteNS (congrArg V.int (by omega)) ?_
      refine ⟨_, rfl, r, _, rfl, .inr h2, _, rfl, by omega, by omega, for_range (lo := 0) (fun i σ H' => H' = H ∧ ∃ v : Option V, σ = [some (.ref p), some (.ref r), v]) ⟨rfl, none, rfl⟩ ?_ ?_⟩
      · rintro i σ H' hi ⟨rfl, v, rfl⟩
        refine same_seq (.inr h1) (.inr h2) d1 d2 hd (by omega) ⟨_, rfl, iteF ?_⟩
        exact ⟨rfl, _, rfl⟩
      · rintro σ H' ⟨rfl, v, rfl⟩
        exact q
end
/-! ### rows and matrices of whole numbers -/
open ZG (Sq ItzG walk_zipG)
theorem Sq.same {K : PySem.W.Frag} {t : Bool} {p : Addr} {H H' : Hp} {xs : List V} (s : Same H H') (h : Sq t K H p xs) : Sq t K H' p xs := by
  cases t
  · exact s.seq h
  · exact Same.tup s h
theorem Sq.upd_same {K : PySem.W.Frag} {p : Addr} {H : Hp} {xs : List V} : Sq false K (upd H p (.lst xs)) p xs := SqL.of L2.upd_same
theorem Sq.upd_sameT {K : PySem.W.Frag} {p : Addr} {H : Hp} {xs : List V} : Sq true K (upd H p (.tup xs)) p xs := SqT.of L2.upd_same
/-- what stood stands but at D -/
def But (D : Addr) (H H' : Hp) : Prop := ∀ b o, b ≠ D → H b = some o → H' b = some o
theorem But.of_same {D : Addr} {H H' : Hp} (s : Same H H') : But D H H' := fun b o _ e => s b o e
theorem But.upd {D : Addr} {H : Hp} (o : HO) : But D H (upd H D o) := fun b u ne e => by rw [upd_ne ne]; exact e
theorem But.trans {D : Addr} {H H1 H2 : Hp} (a : But D H H1) (b : But D H1 H2) : But D H H2 := fun c o ne e => b c o ne (a c o ne e)
theorem Sq.but {K : PySem.W.Frag} {t : Bool} {p D : Addr} {H H' : Hp} {xs : List V} (s : But D H H') (ne : p ≠ D) (h : Sq t K H p xs) : Sq t K H' p xs := by
  cases t
  · rcases h with (h | ⟨o, h⟩) | h
    · exact .inl (.inl (s _ _ ne h))
    · exact .inl (.inr ⟨o, s _ _ ne h⟩)
    · exact .inr h
  · rcases h with (h | ⟨o, h⟩) | h
    · exact .inl (.inl (s _ _ ne h))
    · exact .inl (.inr ⟨o, s _ _ ne h⟩)
    · exact .inr h
/-- a matrix at p: rows of kind t2 in a row of kind t1 -/
def Mx (t1 t2 : Bool) (K : PySem.W.Frag) (H : Hp) (p : Addr) (M : List (List Int)) : Prop :=
  ∃ as : List Addr, Sq t1 K H p (as.map V.ref) ∧ as.length = M.length ∧ ∀ (i : Nat) (a : Addr) (r : List Int), as[i]? = some a → M[i]? = some r → Sq t2 K H a (r.map V.int)
theorem Mx.same {t1 t2 : Bool} {K : PySem.W.Frag} {H H' : Hp} {p : Addr} {M : List (List Int)} (s : Same H H') (h : Mx t1 t2 K H p M) : Mx t1 t2 K H' p M := by
  obtain ⟨as, h1, h2, h3⟩ := h
  exact ⟨as, Sq.same s h1, h2, fun i a r e1 e2 => Sq.same s (h3 i a r e1 e2)⟩
/-- its i-th row -/
theorem Mx.row {t1 t2 : Bool} {K : PySem.W.Frag} {H : Hp} {p : Addr} {M : List (List Int)} (h : Mx t1 t2 K H p M) : ∃ vs : List V, Sq t1 K H p vs ∧ vs.length = M.length ∧ ∀ (i : Nat) (v : V), vs[i]? = some v → ∃ (a : Addr) (r : List Int), v = .ref a ∧ M[i]? = some r ∧ Sq t2 K H a (r.map V.int) := by
  obtain ⟨as, h1, h2, h3⟩ := h
  refine ⟨as.map V.ref, h1, by rw [List.length_map]; exact h2, fun i v e => ?_⟩
  rw [List.getElem?_map] at e
  cases ea : as[i]? with
  | none => rw [ea] at e; cases e
  | some a =>
    rw [ea] at e
    cases e
    have hi : i < M.length := by
      have := (List.getElem?_eq_some_iff.mp ea).1
      omega
    exact ⟨a, M[i], rfl, List.getElem?_eq_getElem hi, h3 i a _ ea (List.getElem?_eq_getElem hi)⟩
theorem refs_of {K : PySem.W.Frag} {t2 : Bool} {H : Hp} : ∀ {ys : List V} {M : List (List Int)}, ys.length = M.length → (∀ (j : Nat) (y : V), ys[j]? = some y → ∃ (a : Addr) (r : List Int), y = .ref a ∧ M[j]? = some r ∧ Sq t2 K H a (r.map V.int)) →
    ∃ as : List Addr, ys = as.map V.ref ∧ as.length = M.length ∧ ∀ (i : Nat) (a : Addr) (r : List Int), as[i]? = some a → M[i]? = some r → Sq t2 K H a (r.map V.int)
  | [], [], _, _ => ⟨[], rfl, rfl, fun i a r e => by simp at e⟩
  | [], _ :: _, h, _ => by simp at h
  | _ :: _, [], h, _ => by simp at h
  | y :: ys, r :: M, h, k => by
    obtain ⟨as, e1, e2, e3⟩ := refs_of (ys := ys) (M := M) (by simpa using h) (fun j z e => by
      obtain ⟨a, r', h1, h2, h3⟩ := k (j + 1) z (by simpa using e)
      exact ⟨a, r', h1, by simpa using h2, h3⟩)
    obtain ⟨a, r', h1, h2, h3⟩ := k 0 y rfl
    have er : r = r' := by simpa using h2
    subst er
    subst h1 e1
    refine ⟨a :: as, rfl, by simp [e2], fun i b q e4 e5 => ?_⟩
    cases i with
    | zero =>
      cases e4
      cases e5
      exact h3
    | succ i => exact e3 i b q (by simpa using e4) (by simpa using e5)
theorem Mx.of {t1 t2 : Bool} {K : PySem.W.Frag} {H : Hp} {p : Addr} {ys : List V} {M : List (List Int)} (h : Sq t1 K H p ys) (l : ys.length = M.length) (k : ∀ (j : Nat) (y : V), ys[j]? = some y → ∃ (a : Addr) (r : List Int), y = .ref a ∧ M[j]? = some r ∧ Sq t2 K H a (r.map V.int)) : Mx t1 t2 K H p M := by
  obtain ⟨as, rfl, e2, e3⟩ := refs_of l k
  exact ⟨as, h, e2, e3⟩
theorem ys_ints {ns : List Int} : ∀ {ys : List V}, ys.length = ns.length → (∀ (j : Nat) (y : V), ys[j]? = some y → ∃ c, ns[j]? = some c ∧ y = .int c) → ys = ns.map V.int := by
  induction ns with
  | nil =>
    intro ys l _
    cases ys with
    | nil => rfl
    | cons _ _ => simp at l
  | cons n ns ih =>
    intro ys l k
    cases ys with
    | nil => simp at l
    | cons y ys =>
      obtain ⟨c, h1, h2⟩ := k 0 y rfl
      have e : n = c := by simpa using h1
      subst e h2
      rw [ih (ys := ys) (by simpa using l) (fun j z e => by
        obtain ⟨c, h1, h2⟩ := k (j + 1) z (by simpa using e)
        exact ⟨c, by simpa using h1, h2⟩)]
      rfl
/-- tuple(..) of a list or a tuple -/
def rTupOf (K : PySem.W.Frag) : List V → Hp → VK → Prop := fun xs H Q => ∃ p ys, xs = [.ref p] ∧ ((SqL K H p ys ∧ ∀ l, H l = none → Q (.ref l) (upd H l (.tup ys))) ∨ (SqT K H p ys ∧ Q (.ref p) H))
def rLenOf (K : PySem.W.Frag) : List V → Hp → VK → Prop := fun xs H Q => ∃ p ys, xs = [.ref p] ∧ (SqL K H p ys ∨ SqT K H p ys) ∧ Q (.int ys.length) H
/-- as data -/
def rowD (r : List Int) : PyData := .tuple (r.map PyData.int)
def matD (M : List (List Int)) : PyData := .tuple (M.map rowD)
theorem dp_ints {K : PySem.W.Frag} {H : Hp} : ∀ r : List Int, DpAll K H (r.map V.int) (r.map PyData.int)
  | [] => .nil
  | _ :: r => .cons (.int _) (dp_ints r)
theorem dp_rows {K : PySem.W.Frag} {H : Hp} : ∀ {as : List Addr} {M : List (List Int)}, as.length = M.length → (∀ (i : Nat) (a : Addr) (r : List Int), as[i]? = some a → M[i]? = some r → Sq true K H a (r.map V.int)) → DpAll K H (as.map V.ref) (M.map rowD)
  | [], [], _, _ => .nil
  | [], _ :: _, h, _ => by simp at h
  | _ :: _, [], h, _ => by simp at h
  | a :: as, r :: M, h, k => .cons (.tup (k 0 a r rfl rfl) (dp_ints r)) (dp_rows (by simpa using h) fun i b q e1 e2 => k (i + 1) b q (by simpa using e1) (by simpa using e2))
theorem Mx.dp {K : PySem.W.Frag} {H : Hp} {p : Addr} {M : List (List Int)} (h : Mx true true K H p M) : Dp K H (.ref p) (matD M) := by
  obtain ⟨as, h1, h2, h3⟩ := h
  exact .tup h1 (dp_rows h2 h3)
/-- all its rows have n numbers, n of them -/
def Sz (n : Nat) (M : List (List Int)) : Prop := M.length = n ∧ ∀ r ∈ M, r.length = n
theorem Sz.dok {n : Nat} {M : List (List Int)} (h : Sz n M) (hn : n ≤ 1000) : Dok 3 (matD M) := by
  refine ⟨by rw [List.length_map, h.1]; omega, fun d hd => ?_⟩
  obtain ⟨r, hr, rfl⟩ := List.mem_map.mp hd
  refine ⟨by rw [List.length_map, h.2 r hr]; omega, fun d hd => ?_⟩
  obtain ⟨c, _, rfl⟩ := List.mem_map.mp hd
  trivial
/-- a box: None, or a matrix -/
def BoxAt (K : PySem.W.Frag) (H : Hp) (v : V) : Option (List (List Int)) → Prop
  | none => v = .non
  | some M => ∃ p, v = .ref p ∧ Mx true true K H p M
def boxD : Option (List (List Int)) → PyData
  | none => .none
  | some M => matD M
theorem BoxAt.same {K : PySem.W.Frag} {H H' : Hp} {v : V} {B : Option (List (List Int))} (s : Same H H') (h : BoxAt K H v B) : BoxAt K H' v B := by
  cases B with
  | none => exact h
  | some M =>
    obtain ⟨p, e, h⟩ := h
    exact ⟨p, e, h.same s⟩
theorem BoxAt.dp {K : PySem.W.Frag} {H : Hp} {v : V} {B : Option (List (List Int))} (h : BoxAt K H v B) : Dp K H v (boxD B) := by
  cases B with
  | none =>
    obtain rfl : v = .non := h
    exact .non
  | some M =>
    obtain ⟨p, rfl, h⟩ := h
    exact h.dp
def BSz (n : Nat) (B : Option (List (List Int))) : Prop := ∀ M, B = some M → Sz n M
theorem BSz.dok {n : Nat} {B : Option (List (List Int))} (h : BSz n B) (hn : n ≤ 1000) : Dok 3 (boxD B) := by
  cases B with
  | none => trivial
  | some M => exact (h M rfl).dok hn
/-! ### comprehensions that leave what stood -/
def LcP (S : Hp → Prop) (R : Nat → V → Hp → Prop) (D : Addr) (i : Nat) (H : Hp) : Prop := S H ∧ ∃ acc : List V, H D = some (.lst acc) ∧ acc.length = i ∧ ∀ (j : Nat) (y : V), acc[j]? = some y → R j y H
theorem lcp_step {S : Hp → Prop} {R : Nat → V → Hp → Prop} {D : Addr} {i : Nat} {H H4 : Hp} {y : V} (P : LcP S R D i H) (e : ∀ o, H D = some o → H4 D = some o) (hi : i < sizeLine) (s : ∀ o, S (upd H4 D o)) (m : ∀ (j : Nat) (z : V) (o : HO), R j z H → R j z (upd H4 D o)) (r : ∀ o, R i y (upd H4 D o)) :
    ∃ acc, H4 D = some (.lst acc) ∧ acc.length < sizeLine ∧ LcP S R D (i + 1) (upd H4 D (.lst (acc ++ [y]))) := by
  obtain ⟨_, acc, h1, h2, h3⟩ := P
  refine ⟨acc, e _ h1, by omega, s _, _, upd_same, by simp [h2], fun j z ez => ?_⟩
  by_cases hj : j < i
  · rw [List.getElem?_append_left (by omega)] at ez
    exact m j z _ (h3 j z ez)
  · rw [List.getElem?_append_right (by omega)] at ez
    have ej : j = i := by
      have := (List.getElem?_eq_some_iff.mp ez).1
      simp at this
      omega
    subst ej
    rw [h2, Nat.sub_self] at ez
    have ez' : y = z := by simpa using ez
    rw [← ez']
    exact r _
/-- what the step of a comprehension that only makes new objects is to reach -/
theorem lcp_same {R : Nat → V → Hp → Prop} {D : Addr} {i : Nat} {H1 H H4 : Hp} {y : V} (P : LcP (Same H1) R D i H) (hD : H1 D = none) (s : Same H H4) (hi : i < sizeLine) (mono : ∀ (j : Nat) (z : V) (G G' : Hp), R j z G → But D G G' → R j z G') (r : R i y H4) :
    ∃ acc, H4 D = some (.lst acc) ∧ acc.length < sizeLine ∧ LcP (Same H1) R D (i + 1) (upd H4 D (.lst (acc ++ [y]))) :=
  lcp_step P (fun o e => s _ _ e) hi (fun o b u e => by rw [upd_ne (ne_of_none e hD)]; exact s _ _ (P.1 _ _ e)) (fun j z o q => mono j z _ _ q ((But.of_same s).trans (But.upd o))) fun o => mono i y _ _ r (But.upd o)
theorem lcp_start {R : Nat → V → Hp → Prop} {D : Addr} {H1 : Hp} (hD : H1 D = none) : LcP (Same H1) R D 0 (upd H1 D (.lst [])) :=
  ⟨fun b u e => by rw [upd_ne (ne_of_none e hD)]; exact e, [], upd_same, rfl, fun j y e => by simp at e⟩
/-- its numbers -/
def RInt (ns : List Int) : Nat → V → Hp → Prop := fun j y _ => ∃ c, ns[j]? = some c ∧ y = .int c
theorem RInt.mono {ns : List Int} {D : Addr} : ∀ (j : Nat) (z : V) (G G' : Hp), RInt ns j z G → But D G G' → RInt ns j z G' := fun _ _ _ _ h _ => h
/-- its rows -/
def RRow (K : PySem.W.Frag) (t : Bool) (M : List (List Int)) (D : Addr) : Nat → V → Hp → Prop := fun j y H => ∃ (a : Addr) (r : List Int), y = .ref a ∧ M[j]? = some r ∧ a ≠ D ∧ Sq t K H a (r.map V.int)
theorem RRow.mono {K : PySem.W.Frag} {t : Bool} {M : List (List Int)} {D : Addr} : ∀ (j : Nat) (z : V) (G G' : Hp), RRow K t M D j z G → But D G G' → RRow K t M D j z G' := by
  rintro j z G G' ⟨a, r, h1, h2, h3, h4⟩ b
  exact ⟨a, r, h1, h2, h3, Sq.but b h3 h4⟩
theorem lcp_ints {K : PySem.W.Frag} {S : Hp → Prop} {ns : List Int} {D : Addr} {n : Nat} {H : Hp} (P : LcP S (RInt ns) D n H) (hn : n = ns.length) : H D = some (.lst (ns.map V.int)) := by
  obtain ⟨_, acc, h1, h2, h3⟩ := P
  rw [h1, ys_ints (ns := ns) (by omega) h3]
theorem lcp_rows {K : PySem.W.Frag} {S : Hp → Prop} {t : Bool} {M : List (List Int)} {D : Addr} {n : Nat} {H : Hp} (P : LcP S (RRow K t M D) D n H) (hn : n = M.length) : Mx false t K H D M := by
  obtain ⟨_, acc, h1, h2, h3⟩ := P
  exact Mx.of (t1 := false) (SqL.of h1) (by omega) fun j y e => by
    obtain ⟨a, r, q1, q2, _, q3⟩ := h3 j y e
    exact ⟨a, r, q1, q2, q3⟩
theorem LcP.ne {S : Hp → Prop} {R : Nat → V → Hp → Prop} {D l : Addr} {i : Nat} {H : Hp} (P : LcP S R D i H) (hl : H l = none) : l ≠ D := by
  obtain ⟨_, acc, h, _⟩ := P
  exact fun z => absurd (z ▸ hl) (by rw [h]; intro z; cases z)
theorem lt_line {n : Nat} (h : n ≤ 10000000) : n < sizeLine := by rw [sizeLine_eq]; omega
/-- a comprehension without a test -/
theorem tyes {σ : L2.St} {H : Hp} {A B : Hp → Prop} (h : A H) : tYes σ H (fun b H3 => if b = true then A H3 else B H3) := by
  show if true = true then A H else B H
  rw [if_pos rfl]
  exact h
theorem get_int {r : List Int} {j : Nat} {v : V} (e : (r.map V.int)[j]? = some v) : ∃ k, r[j]? = some k ∧ v = .int k := by
  rw [List.getElem?_map] at e
  cases h : r[j]? with
  | none => rw [h] at e; cases e
  | some k => rw [h] at e; cases e; exact ⟨k, rfl, rfl⟩
theorem Sz.get {n i : Nat} {M : List (List Int)} {r : List Int} (h : Sz n M) (e : M[i]? = some r) : r.length = n := h.2 r (List.mem_of_getElem? e)
theorem zw_get {α β γ : Type} {f : α → β → γ} {xs : List α} {ys : List β} {i : Nat} {x : α} {y : β} (e1 : xs[i]? = some x) (e2 : ys[i]? = some y) : (List.zipWith f xs ys)[i]? = some (f x y) := by
  rw [List.getElem?_zipWith, e1, e2]
theorem lcp_put {R : Nat → V → Hp → Prop} {D : Addr} {i : Nat} {H1 H H4 : Hp} {y : V} {acc : List V} (P : LcP (Same H1) R D i H) (e : H D = some (.lst acc)) (hD : H1 D = none) (s : Same H H4) (hi : i < sizeLine) (mono : ∀ (j : Nat) (z : V) (G G' : Hp), R j z G → But D G G' → R j z G') (r : R i y H4) :
    LcP (Same H1) R D (i + 1) (upd H4 D (.lst (acc ++ [y]))) := by
  obtain ⟨acc', h1, _, h3⟩ := lcp_same P hD s hi mono r
  have := s _ _ e
  rw [this] at h1
  cases h1
  exact h3
/-- (0,) and the numbers of a row -/
theorem cat0 {K : PySem.W.Frag} {H : Hp} {t a : Addr} {r : List Int} {Q : VK} (h1 : SqT K H t [.int 0]) (h2 : SqT K H a (r.map V.int)) (hz : r.length ≤ 1000) (q : ∀ z H', Same H H' → SqT K H' z ((0 :: r).map V.int) → Q (.ref z) H') : rCatT K (.ref t) (.ref a) H Q := by
  refine ⟨t, a, _, _, rfl, rfl, h1, h2, by simp, ?_, fun e => ?_, fun ne p hp => ?_⟩
  · rw [List.length_map, sizeLine_eq]
    simp
    omega
  · have e' : r = [] := List.map_eq_nil_iff.mp e
    subst e'
    exact q t H (Same.refl H) h1
  · exact q p _ (Same.new hp _) (SqT.of upd_same)
theorem atI_row {r : List Int} {i : Nat} (h : i < r.length) : atI (r.map V.int) (0 + (i : Int)) = some (.int (r.getD i 0)) := by
  rw [Int.zero_add]
  refine atI_nat ?_
  rw [List.getElem?_map, List.getElem?_eq_getElem h]
  simp [List.getD, h]
theorem LcP.acc {S : Hp → Prop} {R : Nat → V → Hp → Prop} {D : Addr} {i : Nat} {H : Hp} (P : LcP S R D i H) : ∃ acc : List V, H D = some (.lst acc) ∧ acc.length = i := by
  obtain ⟨_, acc, h1, h2, _⟩ := P
  exact ⟨acc, h1, h2⟩
theorem map_get {α β : Type} {f : α → β} {xs : List α} {i : Nat} {x : α} (e : xs[i]? = some x) : (xs.map f)[i]? = some (f x) := by rw [List.getElem?_map, e]; rfl
open ZG (Sq ItzG walk_zipG)
def natsV (cs : List Nat) : List V := cs.map fun c : Nat => V.int (c : Int)
/-! ### entries of a matrix -/
def getM (M : List (List Int)) (i j : Nat) : Int := (M.getD i []).getD j 0
theorem getM_of {M : List (List Int)} {i j : Nat} {r : List Int} {k : Int} (h1 : M[i]? = some r) (h2 : r[j]? = some k) : getM M i j = k := by
  simp [getM, List.getD_eq_getElem?_getD, h1, h2]
theorem Sz.at {n i : Nat} {M : List (List Int)} (h : Sz n M) (hi : i < n) : ∃ r, M[i]? = some r ∧ r.length = n := by
  have hi' : i < M.length := by rw [h.1]; exact hi
  exact ⟨M[i], List.getElem?_eq_getElem hi', h.2 _ (List.getElem_mem hi')⟩
theorem Sz.at2 {n i j : Nat} {M : List (List Int)} (h : Sz n M) (hi : i < n) (hj : j < n) : ∃ r, M[i]? = some r ∧ r.length = n ∧ r[j]? = some (getM M i j) := by
  obtain ⟨r, e, l⟩ := h.at hi
  have hj' : j < r.length := by omega
  refine ⟨r, e, l, ?_⟩
  rw [getM_of e (List.getElem?_eq_getElem hj')]
  exact List.getElem?_eq_getElem hj'
theorem split_lt {n : Nat} {c : Nat → Prop} : (∀ i < n + 1, c i) ↔ (∀ i < n, c i) ∧ c n := by
  constructor
  · exact fun h => ⟨fun i hi => h i (by omega), h n (by omega)⟩
  · rintro ⟨h1, h2⟩ i hi
    by_cases e : i = n
    · rw [e]; exact h2
    · exact h1 i (by omega)
theorem ixN_int {n : Nat} {c : Int} (h0 : 0 ≤ c) (h : c < (n : Int)) : ixN n c = some c.toNat := by
  unfold ixN
  rw [if_pos h0, if_pos h]
/-! ### closed matrices, and the best one below a matrix -/
def mkR (n : Nat) (f : Nat → Int) : List Int := (List.range n).map f
def mkM (n : Nat) (f : Nat → Nat → Int) : List (List Int) := (List.range n).map fun i => mkR n (f i)
theorem range_at {n i : Nat} (h : i < n) : (List.range n)[i]? = some i := by simp [h]
theorem mkR_at {n i : Nat} {f : Nat → Int} (h : i < n) : (mkR n f)[i]? = some (f i) := map_get (range_at h)
theorem mkM_at {n i : Nat} {f : Nat → Nat → Int} (h : i < n) : (mkM n f)[i]? = some (mkR n (f i)) := map_get (range_at h)
theorem mkR_len {n : Nat} {f : Nat → Int} : (mkR n f).length = n := by simp [mkR]
theorem mkM_sz {n : Nat} {f : Nat → Nat → Int} : Sz n (mkM n f) := by
  refine ⟨by simp [mkM], fun r hr => ?_⟩
  obtain ⟨i, _, rfl⟩ := List.mem_map.mp hr
  exact mkR_len
theorem mkM_get {n i j : Nat} {f : Nat → Nat → Int} (hi : i < n) (hj : j < n) : getM (mkM n f) i j = f i j := getM_of (mkM_at hi) (mkR_at hj)
theorem sz_ext {n : Nat} {M N : List (List Int)} (h1 : Sz n M) (h2 : Sz n N) (e : ∀ i < n, ∀ j < n, getM M i j = getM N i j) : M = N := by
  refine List.ext_getElem? fun i => ?_
  by_cases hi : i < n
  · obtain ⟨r, e1, l1⟩ := h1.at hi
    obtain ⟨r', e2, l2⟩ := h2.at hi
    rw [e1, e2]
    congr 1
    refine List.ext_getElem? fun j => ?_
    by_cases hj : j < n
    · have a1 : r[j]? = some (r[j]'(by omega)) := List.getElem?_eq_getElem _
      have a2 : r'[j]? = some (r'[j]'(by omega)) := List.getElem?_eq_getElem _
      rw [a1, a2, ← getM_of e1 a1, ← getM_of e2 a2, e i hi j hj]
    · rw [List.getElem?_eq_none (by omega), List.getElem?_eq_none (by omega)]
  · rw [List.getElem?_eq_none (by rw [h1.1]; omega), List.getElem?_eq_none (by rw [h2.1]; omega)]
theorem mkM_congr {n : Nat} {f g : Nat → Nat → Int} (h : ∀ i < n, ∀ j < n, f i j = g i j) : mkM n f = mkM n g := sz_ext mkM_sz mkM_sz fun i hi j hj => by rw [mkM_get hi hj, mkM_get hi hj, h i hi j hj]
theorem mkM_self {n : Nat} {M : List (List Int)} (h : Sz n M) : mkM n (getM M) = M := sz_ext mkM_sz h fun i hi j hj => mkM_get hi hj
structure Clo (n : Nat) (C : Nat → Nat → Int) : Prop where
  d : ∀ i < n, C i i = 0
  t : ∀ i < n, ∀ j < n, ∀ k < n, C i j ≤ C i k + C k j
def LeF (n : Nat) (C D : Nat → Nat → Int) : Prop := ∀ i < n, ∀ j < n, C i j ≤ D i j
theorem LeF.trans {n : Nat} {A B C : Nat → Nat → Int} (h : LeF n A B) (k : LeF n B C) : LeF n A C := fun i hi j hj => Int.le_trans (h i hi j hj) (k i hi j hj)
theorem LeF.refl {n : Nat} (A : Nat → Nat → Int) : LeF n A A := fun _ _ _ _ => Int.le_refl _
/-- the greatest closed matrix below D; none if there is no closed one below D -/
def Best (n : Nat) (D : Nat → Nat → Int) : Option (List (List Int)) → Prop
  | none => ∀ C, Clo n C → ¬ LeF n C D
  | some R => Sz n R ∧ Clo n (getM R) ∧ LeF n (getM R) D ∧ ∀ C, Clo n C → LeF n C D → LeF n C (getM R)
theorem Best.sz {n : Nat} {D : Nat → Nat → Int} {B : Option (List (List Int))} (h : Best n D B) : BSz n B := by
  intro M e
  subst e
  exact h.1
theorem Best.uniq {n : Nat} {D : Nat → Nat → Int} : ∀ {B B' : Option (List (List Int))}, Best n D B → Best n D B' → B = B'
  | none, none, _, _ => rfl
  | none, some R, h, k => absurd k.2.2.1 (h _ k.2.1)
  | some R, none, h, k => absurd h.2.2.1 (k _ h.2.1)
  | some R, some R', h, k => by
    have e : R = R' := sz_ext h.1 k.1 fun i hi j hj => by
      have h1 := k.2.2.2 _ h.2.1 h.2.2.1 i hi j hj
      have h2 := h.2.2.2 _ k.2.1 k.2.2.1 i hi j hj
      omega
    rw [e]
/-- only what is closed and below counts -/
theorem Best.congr {n : Nat} {D E : Nat → Nat → Int} (h : ∀ C, Clo n C → (LeF n C D ↔ LeF n C E)) : ∀ {B : Option (List (List Int))}, Best n D B → Best n E B
  | none, k => fun C hC hE => k C hC ((h C hC).mpr hE)
  | some R, k => ⟨k.1, k.2.1, (h _ k.2.1).mp k.2.2.1, fun C hC hE => k.2.2.2 C hC ((h C hC).mpr hE)⟩
theorem Best.self {n : Nat} {R : List (List Int)} (z : Sz n R) (c : Clo n (getM R)) : Best n (getM R) (some R) := ⟨z, c, LeF.refl _, fun _ _ h => h⟩
/-! ### shortening through each column in turn -/
def fw0 (n : Nat) (D : Nat → Nat → Int) : Nat → Nat → Int := fun i j => if i = j then min (D i j) 0 else D i j
def fwS (k : Nat) (D : Nat → Nat → Int) : Nat → Nat → Int := fun i j => min (D i j) (D i k + D k j)
/-- what holds ahead of the turn with column k -/
structure Fw (n : Nat) (D0 : Nat → Nat → Int) (k : Nat) (D : Nat → Nat → Int) : Prop where
  d : ∀ i < n, D i i ≤ 0
  le : LeF n D D0
  gr : ∀ C, Clo n C → LeF n C D0 → LeF n C D
  t : (∀ i < n, 0 ≤ D i i) → ∀ m < k, ∀ i < n, ∀ j < n, D i j ≤ D i m + D m j
theorem Fw.start {n : Nat} (D0 : Nat → Nat → Int) : Fw n D0 0 (fw0 n D0) where
  d := fun i hi => by
    unfold fw0
    rw [if_pos rfl]
    omega
  le := fun i hi j hj => by
    unfold fw0
    split <;> omega
  gr := fun C hC h i hi j hj => by
    unfold fw0
    have a := h i hi j hj
    split
    · rename_i e
      subst e
      have b := hC.d i hi
      omega
    · exact a
  t := fun _ m hm => by omega
theorem Fw.step {n k : Nat} {D0 D : Nat → Nat → Int} (h : Fw n D0 k D) (hk : k < n) (pos : ∀ i < n, 0 ≤ D i i) : Fw n D0 (k + 1) (fwS k D) where
  d := fun i hi => by
    have a := h.d i hi
    unfold fwS
    omega
  le := fun i hi j hj => by
    have a := h.le i hi j hj
    unfold fwS
    omega
  gr := fun C hC hl i hi j hj => by
    have a := h.gr C hC hl i hi j hj
    have b := h.gr C hC hl i hi k hk
    have c := h.gr C hC hl k hk j hj
    have e := hC.t i hi j hj k hk
    unfold fwS
    omega
  t := fun _ m hm i hi j hj => by
    have T := h.t pos
    have pk := pos k hk
    unfold fwS
    by_cases e : m = k
    · subst e
      omega
    · have hmk : m < k := by omega
      have mn : m < n := by omega
      have a1 := T m hmk i hi j hj
      have a2 := T m hmk k hk j hj
      have a3 := T m hmk i hi k hk
      have a4 := T m hmk k hk k hk
      omega
theorem Fw.done {n : Nat} {D0 D : Nat → Nat → Int} (h : Fw n D0 n D) (pos : ∀ i < n, 0 ≤ D i i) : Best n D0 (some (mkM n D)) := by
  have c : Clo n (getM (mkM n D)) := ⟨fun i hi => by
    rw [mkM_get hi hi]
    have := pos i hi
    have := h.d i hi
    omega, fun i hi j hj k hk => by
    rw [mkM_get hi hj, mkM_get hi hk, mkM_get hk hj]
    exact h.t pos k hk i hi j hj⟩
  refine ⟨mkM_sz, c, fun i hi j hj => ?_, fun C hC hl i hi j hj => ?_⟩
  · rw [mkM_get hi hj]
    exact h.le i hi j hj
  · rw [mkM_get hi hj]
    exact h.gr C hC hl i hi j hj
theorem Fw.bad {n k i : Nat} {D0 D : Nat → Nat → Int} (h : Fw n D0 k D) (hi : i < n) (neg : D i i < 0) : Best n D0 none := fun C hC hl => by
  have a := h.gr C hC hl i hi i hi
  have b := hC.d i hi
  omega
theorem Fw.congr {n k : Nat} {D0 D E : Nat → Nat → Int} (h : Fw n D0 k D) (hk : k ≤ n) (e : ∀ i < n, ∀ j < n, D i j = E i j) : Fw n D0 k E where
  d := fun i hi => by rw [← e i hi i hi]; exact h.d i hi
  le := fun i hi j hj => by rw [← e i hi j hj]; exact h.le i hi j hj
  gr := fun C hC hl i hi j hj => by rw [← e i hi j hj]; exact h.gr C hC hl i hi j hj
  t := fun pos m hm i hi j hj => by
    have mn : m < n := by omega
    rw [← e i hi j hj, ← e i hi m mn, ← e m mn j hj]
    exact h.t (fun i hi => by rw [e i hi i hi]; exact pos i hi) m hm i hi j hj
/-! ### drawn numbers and points -/
def spNumber : Sp := fun vs H Q _ => ∃ a : Addr, vs = [.ref a] ∧ Src H a ∧ ∀ (r : Int) H', Stp a H H' → Q (.int r) H'
def spSize : Sp := fun vs H Q _ => ∃ a : Addr, vs = [.ref a] ∧ Src H a ∧ ∀ (n : Nat) H', Stp a H H' → n ≤ 20 → Q (.int n) H'
theorem ixInt {ns : List Int} {r : Int} (h0 : 0 ≤ r) (h : r < (ns.length : Int)) : ∃ u : Int, atI (ns.map V.int) r = some (.int u) := by
  have e := atI_int (xs := ns.map V.int) h0 (by rw [List.length_map]; omega)
  rw [List.getElem_map] at e
  exact ⟨_, e⟩
theorem Src.new {a p : Addr} {H : Hp} {o : HO} (h : Src H a) (n : H p = none) : Src (upd H p o) a := (Stp.refl h).new n |>.s
/-- points: a list of tuples, the list a tracked one -/
def Pts (K : PySem.W.Frag) (H : Hp) (p : Addr) (Ps : List (List Int)) : Prop :=
  ∃ as : List Addr, H p = some (.lst (as.map V.ref)) ∧ as.length = Ps.length ∧ ∀ (i : Nat) (a : Addr) (r : List Int), as[i]? = some a → Ps[i]? = some r → SqT K H a (r.map V.int)
theorem Pts.mx {K : PySem.W.Frag} {H : Hp} {p : Addr} {Ps : List (List Int)} (h : Pts K H p Ps) : Mx false true K H p Ps := by
  obtain ⟨as, h1, h2, h3⟩ := h
  exact ⟨as, SqL.of h1, h2, h3⟩
theorem Pts.same {K : PySem.W.Frag} {H H' : Hp} {p : Addr} {Ps : List (List Int)} (s : Same H H') (h : Pts K H p Ps) : Pts K H' p Ps := by
  obtain ⟨as, h1, h2, h3⟩ := h
  exact ⟨as, s _ _ h1, h2, fun i a r e1 e2 => Same.tup s (h3 i a r e1 e2)⟩
theorem Stp.put {a D : Addr} {G F : Hp} {o : HO} (x : Stp a G F) (hs : Src G a) (hD : G D = none) : Stp a G (upd F D o) := by
  have ne := hs.ne hD
  obtain ⟨c, m, k, h⟩ := x.s
  exact ⟨⟨c, m, k, by rw [upd_ne ne]; exact h⟩, fun b u hb e => by rw [upd_ne (ne_of_none e hD)]; exact x.k b u hb e⟩
/-- the points so far, none of them at p -/
def PtsN (K : PySem.W.Frag) (H : Hp) (p : Addr) (Ps : List (List Int)) : Prop :=
  ∃ as : List Addr, H p = some (.lst (as.map V.ref)) ∧ as.length = Ps.length ∧ ∀ (i : Nat) (a : Addr) (r : List Int), as[i]? = some a → Ps[i]? = some r → a ≠ p ∧ SqT K H a (r.map V.int)
theorem PtsN.pts {K : PySem.W.Frag} {H : Hp} {p : Addr} {Ps : List (List Int)} (h : PtsN K H p Ps) : Pts K H p Ps := by
  obtain ⟨as, h1, h2, h3⟩ := h
  exact ⟨as, h1, h2, fun i a r e1 e2 => (h3 i a r e1 e2).2⟩
theorem ints_of {acc : List V} (h : ∀ (j : Nat) (y : V), acc[j]? = some y → ∃ k : Int, y = .int k) : ∃ ns : List Int, acc = ns.map V.int := by
  induction acc with
  | nil => exact ⟨[], rfl⟩
  | cons y acc ih =>
    obtain ⟨k, rfl⟩ := h 0 y rfl
    obtain ⟨ns, rfl⟩ := ih fun j y e => h (j + 1) y (by simpa using e)
    exact ⟨k :: ns, rfl⟩
/-- one point more -/
theorem PtsN.push {K : PySem.W.Frag} {G F : Hp} {p t : Addr} {Ps : List (List Int)} {as : List Addr} {ns : List Int} (e2 : as.length = Ps.length) (e3 : ∀ (i : Nat) (a : Addr) (r : List Int), as[i]? = some a → Ps[i]? = some r → a ≠ p ∧ SqT K G a (r.map V.int))
    (k : ∀ (x : Addr) (xs : List V), SqT K G x xs → SqT K F x xs) (ht : SqT K F t (ns.map V.int)) (ne : t ≠ p) : PtsN K (upd F p (.lst (as.map V.ref ++ [.ref t]))) p (Ps ++ [ns]) := by
  refine ⟨as ++ [t], by rw [List.map_append]; exact upd_same, by simp [e2], fun i a r h1 h2 => ?_⟩
  have put : ∀ {x : Addr} {xs : List V}, x ≠ p → SqT K F x xs → SqT K (upd F p (.lst (as.map V.ref ++ [.ref t]))) x xs := fun nx h => Sq.but (t := true) (But.upd _) nx h
  by_cases hi : i < as.length
  · rw [List.getElem?_append_left hi] at h1
    rw [List.getElem?_append_left (by omega)] at h2
    obtain ⟨q1, q2⟩ := e3 i a r h1 h2
    exact ⟨q1, put q1 (k _ _ q2)⟩
  · rw [List.getElem?_append_right (by omega)] at h1
    rw [List.getElem?_append_right (by omega)] at h2
    have ei : i = as.length := by
      have := (List.getElem?_eq_some_iff.mp h1).1
      simp at this
      omega
    subst ei
    rw [Nat.sub_self] at h1
    rw [e2, Nat.sub_self] at h2
    have h1' : t = a := by simpa using h1
    have h2' : ns = r := by simpa using h2
    subst h1' h2'
    exact ⟨ne, put ne ht⟩
/-- all have n numbers, and there are few -/
def Few (n : Nat) (Ps : List (List Int)) : Prop := Ps.length ≤ 20 ∧ ∀ r ∈ Ps, r.length = n
def spSeeds (K : PySem.W.Frag) : Sp := fun vs H Q _ => ∃ (a : Addr) (n : Nat), vs = [.ref a, .int n] ∧ Src H a ∧ n ≤ 20 ∧ ∀ p H' Ps, Stp a H H' → H p = none → Pts K H' p Ps → Few n Ps → Q (.ref p) H'
section
variable {P : Program} {w : World} {K : PySem.W.Frag} {mg : Str → Option Value} {base : Heap}
end
/-! ### the least box of some points -/
def lmax : List Int → Int
  | [] => 0
  | [x] => x
  | x :: y :: r => max x (lmax (y :: r))
theorem lmax_mem : ∀ {xs : List Int}, xs ≠ [] → lmax xs ∈ xs
  | [], h => absurd rfl h
  | [x], _ => by simp [lmax]
  | x :: y :: r, _ => by
    have ih := lmax_mem (xs := y :: r) (by simp)
    unfold lmax
    by_cases h : x ≤ lmax (y :: r)
    · rw [Int.max_eq_right h]
      exact List.mem_cons_of_mem _ ih
    · rw [Int.max_eq_left (by omega)]
      exact List.mem_cons_self
theorem lmax_le : ∀ {xs : List Int} {x : Int}, x ∈ xs → x ≤ lmax xs
  | [], _, h => by simp at h
  | [z], x, h => by
    have e : x = z := by simpa using h
    rw [e]
    exact Int.le_refl _
  | z :: y :: r, x, h => by
    unfold lmax
    rcases List.mem_cons.mp h with rfl | h
    · omega
    · have := lmax_le (xs := y :: r) h
      omega
theorem lmax_eq {xs : List Int} {m : Int} (h1 : m ∈ xs) (h2 : ∀ y ∈ xs, y ≤ m) : m = lmax xs := by
  have ne : xs ≠ [] := fun z => by rw [z] at h1; simp at h1
  have a := h2 _ (lmax_mem ne)
  have b := lmax_le h1
  omega
theorem lmax_append {xs ys : List Int} (h1 : xs ≠ []) (h2 : ys ≠ []) : lmax (xs ++ ys) = max (lmax xs) (lmax ys) := by
  symm
  refine lmax_eq ?_ fun y hy => ?_
  · by_cases h : lmax xs ≤ lmax ys
    · rw [Int.max_eq_right h]
      exact List.mem_append.mpr (.inr (lmax_mem h2))
    · rw [Int.max_eq_left (by omega)]
      exact List.mem_append.mpr (.inl (lmax_mem h1))
  · rcases List.mem_append.mp hy with h | h
    · have := lmax_le h
      omega
    · have := lmax_le h
      omega
/-- column i minus column j of a point -/
def dif (i j : Nat) (r : List Int) : Int := (0 :: r).getD i 0 - (0 :: r).getD j 0
def hullM (n : Nat) (Ps : List (List Int)) : List (List Int) := (List.range (n + 1)).map fun i => (List.range (n + 1)).map fun j => lmax (Ps.map (dif i j))
def hull (n : Nat) (Ps : List (List Int)) : Option (List (List Int)) := if Ps = [] then none else some (hullM n Ps)
theorem hullM_sz (n : Nat) (Ps : List (List Int)) : Sz (n + 1) (hullM n Ps) := by
  refine ⟨by simp [hullM], fun r hr => ?_⟩
  obtain ⟨i, _, rfl⟩ := List.mem_map.mp hr
  simp
theorem hull_sz (n : Nat) (Ps : List (List Int)) : BSz (n + 1) (hull n Ps) := by
  intro M e
  unfold hull at e
  split at e
  · cases e
  · cases e
    exact hullM_sz n Ps
theorem range_get {n i : Nat} (h : i < n) : (List.range n)[i]? = some i := by simp [h]
def spHull (K : PySem.W.Frag) : Sp := fun vs H Q _ => ∃ (p : Addr) (n : Nat) (Ps : List (List Int)), vs = [.ref p, .int n] ∧ n ≤ 900 ∧ Mx false true K H p Ps ∧ (∀ r ∈ Ps, r.length = n) ∧ Ps.length ≤ 1000000 ∧ ∀ v H', Same H H' → BoxAt K H' v (hull n Ps) → Q v H'
/-! ### the least box is closed -/
theorem getM_hull {n : Nat} {Ps : List (List Int)} {i j : Nat} (hi : i < n + 1) (hj : j < n + 1) : getM (hullM n Ps) i j = lmax (Ps.map (dif i j)) := getM_of (map_get (range_get hi)) (map_get (range_get hj))
theorem hull_tri {n : Nat} {Ps : List (List Int)} (hP : Ps ≠ []) {i j k : Nat} (hi : i < n + 1) (hj : j < n + 1) (hk : k < n + 1) : getM (hullM n Ps) i j ≤ getM (hullM n Ps) i k + getM (hullM n Ps) k j := by
  rw [getM_hull hi hj, getM_hull hi hk, getM_hull hk hj]
  obtain ⟨r, hr, e⟩ := List.mem_map.mp (lmax_mem (xs := Ps.map (dif i j)) fun z => hP (List.map_eq_nil_iff.mp z))
  have h1 : dif i k r ≤ lmax (Ps.map (dif i k)) := lmax_le (List.mem_map_of_mem hr)
  have h2 : dif k j r ≤ lmax (Ps.map (dif k j)) := lmax_le (List.mem_map_of_mem hr)
  rw [← e]
  unfold dif at *
  omega
theorem hull_diag {n : Nat} {Ps : List (List Int)} (hP : Ps ≠ []) {i : Nat} (hi : i < n + 1) : getM (hullM n Ps) i i = 0 := by
  rw [getM_hull hi hi]
  obtain ⟨r, hr, e⟩ := List.mem_map.mp (lmax_mem (xs := Ps.map (dif i i)) fun z => hP (List.map_eq_nil_iff.mp z))
  rw [← e]
  unfold dif
  omega
/-- the points at these addresses -/
def PA (K : PySem.W.Frag) (H : Hp) (as : List Addr) (Ps : List (List Int)) : Prop := as.length = Ps.length ∧ ∀ (i : Nat) (a : Addr) (r : List Int), as[i]? = some a → Ps[i]? = some r → SqT K H a (r.map V.int)
theorem Pts.pa {K : PySem.W.Frag} {H : Hp} {p : Addr} {Ps : List (List Int)} (h : Pts K H p Ps) : ∃ as, H p = some (.lst (as.map V.ref)) ∧ PA K H as Ps := by
  obtain ⟨as, h1, h2, h3⟩ := h
  exact ⟨as, h1, h2, h3⟩
theorem PA.pts {K : PySem.W.Frag} {H : Hp} {p : Addr} {as : List Addr} {Ps : List (List Int)} (h : PA K H as Ps) (e : H p = some (.lst (as.map V.ref))) : Pts K H p Ps := ⟨as, e, h.1, h.2⟩
theorem PA.same {K : PySem.W.Frag} {H H' : Hp} {as : List Addr} {Ps : List (List Int)} (s : Same H H') (h : PA K H as Ps) : PA K H' as Ps := ⟨h.1, fun i a r e1 e2 => Same.tup s (h.2 i a r e1 e2)⟩
theorem PA.stp {K : PySem.W.Frag} {a : Addr} {H H' : Hp} {as : List Addr} {Ps : List (List Int)} (s : Stp a H H') (hs : Src H a) (h : PA K H as Ps) : PA K H' as Ps := ⟨h.1, fun i b r e1 e2 => s.rd (h.2 i b r e1 e2) hs⟩
theorem PA.drop {K : PySem.W.Frag} {H : Hp} {as : List Addr} {Ps : List (List Int)} (k : Nat) (h : PA K H as Ps) : PA K H (as.drop k) (Ps.drop k) := by
  refine ⟨by rw [List.length_drop, List.length_drop, h.1], fun i a r e1 e2 => ?_⟩
  rw [List.getElem?_drop] at e1 e2
  exact h.2 _ a r e1 e2
theorem PA.take {K : PySem.W.Frag} {H : Hp} {as : List Addr} {Ps : List (List Int)} (k : Nat) (h : PA K H as Ps) : PA K H (as.take k) (Ps.take k) := by
  refine ⟨by rw [List.length_take, List.length_take, h.1], fun i a r e1 e2 => ?_⟩
  rw [List.getElem?_take] at e1 e2
  split at e1
  · rename_i hk
    rw [if_pos hk] at e2
    exact h.2 _ a r e1 e2
  · cases e1
theorem PA.append {K : PySem.W.Frag} {H : Hp} {as bs : List Addr} {Ps Qs : List (List Int)} (h : PA K H as Ps) (k : PA K H bs Qs) : PA K H (as ++ bs) (Ps ++ Qs) := by
  refine ⟨by rw [List.length_append, List.length_append, h.1, k.1], fun i a r e1 e2 => ?_⟩
  by_cases hi : i < as.length
  · rw [List.getElem?_append_left hi] at e1
    rw [List.getElem?_append_left (by rw [← h.1]; exact hi)] at e2
    exact h.2 i a r e1 e2
  · rw [List.getElem?_append_right (by omega)] at e1
    rw [List.getElem?_append_right (by rw [← h.1]; omega), ← h.1] at e2
    exact k.2 _ a r e1 e2
theorem PA.one {K : PySem.W.Frag} {H : Hp} {a : Addr} {r : List Int} (h : SqT K H a (r.map V.int)) : PA K H [a] [r] := by
  refine ⟨rfl, fun i b q e1 e2 => ?_⟩
  cases i with
  | zero =>
    cases e1
    cases e2
    exact h
  | succ i => simp at e1
theorem Pts.stp {K : PySem.W.Frag} {a p : Addr} {H H' : Hp} {Ps : List (List Int)} (s : Stp a H H') (hs : Src H a) (ne : p ≠ a) (h : Pts K H p Ps) : Pts K H' p Ps := by
  obtain ⟨as, h1, h2⟩ := h.pa
  exact (h2.stp s hs).pts (s.k _ _ ne h1)
/-! ### rows that are written: lists of numbers in a list -/
def RowsL (H : Hp) (as : List Addr) (Rs : List (List Int)) : Prop := as.length = Rs.length ∧ ∀ (i : Nat) (x : Addr) (r : List Int), as[i]? = some x → Rs[i]? = some r → H x = some (.lst (r.map V.int))
theorem RowsL.keep {H H' : Hp} {as : List Addr} {Rs : List (List Int)} (h : RowsL H as Rs) (k : ∀ x ∈ as, ∀ o, H x = some o → H' x = some o) : RowsL H' as Rs :=
  ⟨h.1, fun i x r e1 e2 => k x (List.mem_of_getElem? e1) _ (h.2 i x r e1 e2)⟩
theorem RowsL.at {H : Hp} {as : List Addr} {Rs : List (List Int)} {i : Nat} (h : RowsL H as Rs) (hi : i < Rs.length) : ∃ x r, as[i]? = some x ∧ Rs[i]? = some r ∧ H x = some (.lst (r.map V.int)) := by
  have ea : as[i]? = some (as[i]'(by rw [h.1]; exact hi)) := List.getElem?_eq_getElem _
  have er : Rs[i]? = some Rs[i] := List.getElem?_eq_getElem hi
  exact ⟨_, _, ea, er, h.2 i _ _ ea er⟩
theorem nodup_ix {α : Type} {as : List α} (nd : as.Nodup) {i j : Nat} {x : α} (h1 : as[i]? = some x) (h2 : as[j]? = some x) : i = j := by
  obtain ⟨l1, q1⟩ := List.getElem?_eq_some_iff.mp h1
  obtain ⟨l2, q2⟩ := List.getElem?_eq_some_iff.mp h2
  have p := List.pairwise_iff_getElem.mp nd
  rcases Nat.lt_trichotomy i j with h | h | h
  · exact absurd (q1.trans q2.symm) (p i j l1 l2 h)
  · exact h
  · exact absurd (q2.trans q1.symm) (p j i l2 l1 h)
theorem RowsL.put {H : Hp} {as : List Addr} {Rs : List (List Int)} {i : Nat} {x : Addr} {r' : List Int} (h : RowsL H as Rs) (nd : as.Nodup) (ea : as[i]? = some x) : RowsL (upd H x (.lst (r'.map V.int))) as (Rs.set i r') := by
  refine ⟨by rw [List.length_set]; exact h.1, fun j y q e1 e2 => ?_⟩
  rw [List.getElem?_set] at e2
  by_cases hj : i = j
  · subst hj
    rw [if_pos rfl] at e2
    rw [ea] at e1
    cases e1
    split at e2
    · cases e2
      exact upd_same
    · cases e2
  · rw [if_neg hj] at e2
    have ne : y ≠ x := fun z => by
      subst z
      exact hj (nodup_ix nd ea e1)
    rw [upd_ne ne]
    exact h.2 j y q e1 e2
/-- the diagonal's entry i becomes v -/
def setD (Rs : List (List Int)) (i : Nat) (v : Int) : List (List Int) := Rs.set i ((Rs.getD i []).set i v)
theorem setD_eq {Rs : List (List Int)} {i : Nat} {r : List Int} {v : Int} (e : Rs[i]? = some r) : setD Rs i v = Rs.set i (r.set i v) := by
  unfold setD
  rw [List.getD_eq_getElem?_getD, e]
  rfl
theorem setD_at {Rs : List (List Int)} {i : Nat} {r : List Int} {v : Int} (e : Rs[i]? = some r) : (setD Rs i v)[i]? = some (r.set i v) := by
  rw [setD_eq e, List.getElem?_set, if_pos rfl, if_pos (List.getElem?_eq_some_iff.mp e).1]
theorem setD_sz {n i : Nat} {Rs : List (List Int)} {v : Int} (h : Sz n Rs) (hi : i < n) : Sz n (setD Rs i v) := by
  obtain ⟨r, e, l⟩ := h.at hi
  rw [setD_eq e]
  refine ⟨by rw [List.length_set]; exact h.1, fun q hq => ?_⟩
  rcases List.mem_or_eq_of_mem_set hq with h1 | h1
  · exact h.2 q h1
  · rw [h1, List.length_set]
    exact l
theorem setD_get {n i a b : Nat} {Rs : List (List Int)} {v : Int} (h : Sz n Rs) (hi : i < n) (ha : a < n) (hb : b < n) : getM (setD Rs i v) a b = if a = i ∧ b = i then v else getM Rs a b := by
  obtain ⟨r, e, l⟩ := h.at hi
  by_cases e1 : a = i
  · subst e1
    by_cases e2 : b = a
    · subst e2
      rw [if_pos ⟨rfl, rfl⟩]
      exact getM_of (setD_at e) (by rw [List.getElem?_set, if_pos rfl, if_pos (by omega)])
    · rw [if_neg (fun z => e2 z.2)]
      have eb : r[b]? = some (r[b]'(by omega)) := List.getElem?_eq_getElem _
      rw [getM_of e eb]
      exact getM_of (setD_at e) (by rw [List.getElem?_set, if_neg (fun z => e2 z.symm)]; exact eb)
  · rw [if_neg (fun z => e1 z.1)]
    obtain ⟨q, eq', lq⟩ := h.at ha
    have eb : q[b]? = some (q[b]'(by omega)) := List.getElem?_eq_getElem _
    rw [getM_of eq' eb]
    exact getM_of (by rw [setD_eq e, List.getElem?_set, if_neg (fun z => e1 z.symm)]; exact eq') eb
theorem setD_setD {Rs : List (List Int)} {i : Nat} {r : List Int} {v w : Int} (e : Rs[i]? = some r) : (setD Rs i v).set i (r.set i w) = setD Rs i w := by
  rw [setD_eq e, setD_eq e, List.set_set]
/-- rows that were made since H0 -/
structure RowsN (a : Addr) (H0 G : Hp) (pr : Addr) (as : List Addr) (Rs : List (List Int)) : Prop where
  st : Stp a H0 G
  s0 : Src H0 a
  e : G pr = some (.lst (as.map V.ref))
  rw : RowsL G as Rs
  nd : as.Nodup
  nw : ∀ x ∈ as, H0 x = none
  np : pr ∉ as
  n0 : H0 pr = none
theorem RowsN.na {a : Addr} {H0 G : Hp} {pr : Addr} {as : List Addr} {Rs : List (List Int)} (h : RowsN a H0 G pr as Rs) : ∀ x ∈ as, x ≠ a := fun x hx => (h.s0.ne (h.nw x hx)).symm
theorem RowsN.npa {a : Addr} {H0 G : Hp} {pr : Addr} {as : List Addr} {Rs : List (List Int)} (h : RowsN a H0 G pr as Rs) : pr ≠ a := (h.s0.ne h.n0).symm
theorem RowsN.go {a : Addr} {H0 G G' : Hp} {pr : Addr} {as : List Addr} {Rs : List (List Int)} (h : RowsN a H0 G pr as Rs) (s : Stp a G G') : RowsN a H0 G' pr as Rs :=
  ⟨h.st.trans s, h.s0, s.k _ _ h.npa h.e, h.rw.keep fun x hx o e => s.k x o (h.na x hx) e, h.nd, h.nw, h.np, h.n0⟩
theorem RowsN.put {a : Addr} {H0 G : Hp} {pr : Addr} {as : List Addr} {Rs : List (List Int)} {i : Nat} {x : Addr} {r' : List Int} (h : RowsN a H0 G pr as Rs) (ea : as[i]? = some x) : RowsN a H0 (upd G x (.lst (r'.map V.int))) pr as (Rs.set i r') :=
  ⟨h.st.put h.s0 (h.nw x (List.mem_of_getElem? ea)), h.s0, by
    have ne : pr ≠ x := fun z => h.np (by rw [z]; exact List.mem_of_getElem? ea)
    rw [upd_ne ne]
    exact h.e, h.rw.put h.nd ea, h.nd, h.nw, h.np, h.n0⟩
theorem RowsN.start {a : Addr} {H0 G : Hp} {pr : Addr} (s : Stp a H0 G) (s0 : Src H0 a) (hp : G pr = none) : RowsN a H0 (upd G pr (.lst [])) pr [] [] :=
  ⟨s.new hp, s0, upd_same, ⟨rfl, fun i x r e => by simp at e⟩, List.nodup_nil, fun x hx => by simp at hx, by simp, s.free hp⟩
/-- one row more -/
theorem RowsN.push {a : Addr} {H0 G F : Hp} {pr D : Addr} {as : List Addr} {Rs : List (List Int)} {ns : List Int} (h : RowsN a H0 G pr as Rs) (s : Stp a G F) (hD : G D = none) (eD : F D = some (.lst (ns.map V.int))) :
    RowsN a H0 (upd F pr (.lst (as.map V.ref ++ [.ref D]))) pr (as ++ [D]) (Rs ++ [ns]) := by
  have h' := h.go s
  have dp : D ≠ pr := fun z => by
    have e := h.e
    rw [← z, hD] at e
    cases e
  have nin : D ∉ as := fun z => by
    obtain ⟨i, hi, e⟩ := List.getElem_of_mem z
    obtain ⟨x, r, e1, e2, e3⟩ := h.rw.at (i := i) (by rw [← h.rw.1]; exact hi)
    rw [List.getElem?_eq_getElem hi, e] at e1
    cases e1
    rw [hD] at e3
    cases e3
  refine ⟨h'.st.put h.s0 h.n0, h.s0, by rw [List.map_append]; exact upd_same, ⟨by simp [h.rw.1], fun i x r e1 e2 => ?_⟩, ?_, fun x hx => ?_, ?_, h.n0⟩
  · by_cases hi : i < as.length
    · rw [List.getElem?_append_left hi] at e1
      rw [List.getElem?_append_left (by rw [← h.rw.1]; exact hi)] at e2
      have ne : x ≠ pr := fun z => h.np (by rw [← z]; exact List.mem_of_getElem? e1)
      rw [upd_ne ne]
      exact h'.rw.2 i x r e1 e2
    · rw [List.getElem?_append_right (by omega)] at e1
      rw [List.getElem?_append_right (by rw [← h.rw.1]; omega), ← h.rw.1] at e2
      have ei : i - as.length = 0 := by
        have := (List.getElem?_eq_some_iff.mp e1).1
        simp at this
        omega
      rw [ei] at e1 e2
      have e1' : D = x := by simpa using e1
      have e2' : ns = r := by simpa using e2
      subst e1' e2'
      rw [upd_ne dp]
      exact eD
  · rw [List.nodup_append]
    refine ⟨h.nd, by simp, fun x hx y hy z => ?_⟩
    have : y = D := by simpa using hy
    subst this
    subst z
    exact nin hx
  · rcases List.mem_append.mp hx with q | q
    · exact h.nw x q
    · have : x = D := by simpa using q
      rw [this]
      exact h.st.free hD
  · intro z
    rcases List.mem_append.mp z with q | q
    · exact h.np q
    · have : pr = D := by simpa using q
      exact dp this.symm
def spDiag (K : PySem.W.Frag) : Sp := fun vs H Q _ => ∃ (a pr : Addr) (as : List Addr) (Rs : List (List Int)) (n : Nat) (H0 : Hp), vs = [.ref a, .ref pr] ∧ 1 ≤ n ∧ n ≤ 900 ∧ RowsN a H0 H pr as Rs ∧ Sz n Rs ∧
  ∀ t H' M, Stp a H0 H' → Mx true true K H' t M → Sz n M → (∀ i < n, ∀ j < n, i ≠ j → getM M i j = getM Rs i j) → (∀ i < n, -3 ≤ getM M i i ∧ getM M i i ≤ 3) → Q (.ref t) H'
theorem Mx.get3 {t1 t2 : Bool} {K : PySem.W.Frag} {H : Hp} {p : Addr} {M : List (List Int)} {n i j : Nat} (h : Mx t1 t2 K H p M) (z : Sz n M) (hi : i < n) (hj : j < n) : ∃ (vs : List V) (a : Addr) (r : List Int), Sq t1 K H p vs ∧ atI vs (i : Int) = some (.ref a) ∧ Sq t2 K H a (r.map V.int) ∧ atI (r.map V.int) (j : Int) = some (.int (getM M i j)) := by
  obtain ⟨r, er, lr⟩ := z.at hi
  obtain ⟨as, h1, h2, h3⟩ := h
  have ea : as[i]? = some (as[i]'(by rw [h2, z.1]; exact hi)) := List.getElem?_eq_getElem _
  refine ⟨_, _, r, h1, atI_nat (map_get ea), h3 i _ r ea er, ?_⟩
  have e : r[j]? = some (r[j]'(by omega)) := List.getElem?_eq_getElem _
  rw [getM_of er e]
  exact atI_nat (map_get e)
/-! ### hulls of moved points -/
/-- column a of a point -/
def xc (r : List Int) (a : Nat) : Int := (0 :: r).getD a 0
theorem dif_xc {a b : Nat} {r : List Int} : dif a b r = xc r a - xc r b := rfl
theorem xc_succ {r : List Int} {a : Nat} : xc r (a + 1) = r.getD a 0 := rfl
theorem lmax_is {xs : List Int} {m : Int} (h1 : m ∈ xs) (h2 : ∀ y ∈ xs, y ≤ m) : lmax xs = m := (lmax_eq h1 h2).symm
theorem hull_of {n : Nat} {Ps : List (List Int)} {f : Nat → Nat → Int} (ne : Ps ≠ []) (h : ∀ a < n + 1, ∀ b < n + 1, f a b ∈ Ps.map (dif a b) ∧ ∀ r ∈ Ps, dif a b r ≤ f a b) : hull n Ps = some (mkM (n + 1) f) := by
  unfold hull
  rw [if_neg ne]
  congr 1
  refine sz_ext (hullM_sz n Ps) mkM_sz fun a ha b hb => ?_
  rw [getM_hull ha hb, mkM_get ha hb]
  obtain ⟨h1, h2⟩ := h a ha b hb
  exact lmax_is h1 fun y hy => by
    obtain ⟨r, hr, rfl⟩ := List.mem_map.mp hy
    exact h2 r hr
/-- an entry of a hull is reached, and bounds -/
theorem hull_at {n a b : Nat} {Ps : List (List Int)} (ne : Ps ≠ []) (ha : a < n + 1) (hb : b < n + 1) : ∃ r ∈ Ps, dif a b r = getM (hullM n Ps) a b := by
  rw [getM_hull ha hb]
  obtain ⟨r, hr, e⟩ := List.mem_map.mp (lmax_mem (xs := Ps.map (dif a b)) fun z => ne (List.map_eq_nil_iff.mp z))
  exact ⟨r, hr, e⟩
theorem hull_le {n a b : Nat} {Ps : List (List Int)} {r : List Int} (ha : a < n + 1) (hb : b < n + 1) (hr : r ∈ Ps) : dif a b r ≤ getM (hullM n Ps) a b := by
  rw [getM_hull ha hb]
  exact lmax_le (List.mem_map_of_mem hr)
theorem hull_some {n : Nat} {Ps : List (List Int)} (ne : Ps ≠ []) : hull n Ps = some (hullM n Ps) := by
  unfold hull
  rw [if_neg ne]
theorem hull_clo {n : Nat} {Ps : List (List Int)} (ne : Ps ≠ []) : Clo (n + 1) (getM (hullM n Ps)) := ⟨fun _ hi => hull_diag ne hi, fun _ hi _ hj _ hk => hull_tri ne hi hj hk⟩
theorem xc_set {r : List Int} {k a : Nat} {v : Int} (hk : k < r.length) : xc (r.set k v) a = if a = k + 1 then v else xc r a := by
  cases a with
  | zero => rw [if_neg (by omega)]; rfl
  | succ a =>
    rw [xc_succ, List.getD_eq_getElem?_getD, List.getElem?_set]
    by_cases e : k = a
    · subst e
      rw [if_pos rfl, if_pos hk, if_pos rfl]
      rfl
    · rw [if_neg e, if_neg (by omega), xc_succ, List.getD_eq_getElem?_getD]
/-! ### == of lists of ints -/
theorem eqvI : ∀ xs ys : List Int, PyData.eqvAll (xs.map PyData.int) (ys.map PyData.int) = decide (xs = ys)
  | [], [] => by simp [PyData.eqvAll]
  | [], y :: ys => by simp [PyData.eqvAll]
  | x :: xs, [] => by simp [PyData.eqvAll]
  | x :: xs, y :: ys => by
    have ih := eqvI xs ys
    simp only [List.map_cons, PyData.eqvAll, PyData.eqv, ih, List.cons.injEq]
    rw [Bool.decide_and]
    congr 1
theorem eqvL (xs ys : List Int) : PyData.eqv (.list (xs.map PyData.int)) (.list (ys.map PyData.int)) = decide (xs = ys) := by
  rw [PyData.eqv]
  exact eqvI xs ys
theorem dpAllI {K : PySem.W.Frag} {H : Hp} : ∀ xs : List Int, DpAll K H (xs.map V.int) (xs.map PyData.int)
  | [] => .nil
  | _ :: xs => .cons (.int _) (dpAllI xs)
theorem dpI {K : PySem.W.Frag} {H : Hp} {a : Addr} {xs : List Int} (h : SqL K H a (xs.map V.int)) : Dp K H (.ref a) (.list (xs.map PyData.int)) := .lst h (dpAllI xs)
theorem shapedAllI : ∀ xs : List Int, PyData.canLayAll0 (xs.map PyData.int) = true ∧ PyData.depthAll (xs.map PyData.int) = 0
  | [] => ⟨rfl, rfl⟩
  | x :: xs => by
    obtain ⟨h1, h2⟩ := shapedAllI xs
    constructor
    · rw [List.map_cons, PyData.canLayAll0, PyData.canLay0, h1]
      rfl
    · rw [List.map_cons, PyData.depthAll, PyData.depth, h2]
      rfl
theorem shapedI (xs : List Int) : SeqAt.shaped (.list (xs.map PyData.int)) = true := by
  obtain ⟨h1, h2⟩ := shapedAllI xs
  unfold SeqAt.shaped
  rw [PyData.canLay0, h1, PyData.depth, h2]
  rfl
/-- told: two lists of ints, compared -/
theorem neI {K : PySem.W.Frag} {H : Hp} {a b : Addr} {xs ys : List Int} {Q : VK} (ha : SqL K H a (xs.map V.int)) (hb : SqL K H b (ys.map V.int)) (q : Q (.bl (!decide (xs = ys))) H) : rNeD K (.ref a) (.ref b) H Q := ⟨_, _, dpI ha, dpI hb, shapedI xs, shapedI ys, by rw [eqvL]; exact q⟩
theorem eqI {K : PySem.W.Frag} {H : Hp} {a b : Addr} {xs ys : List Int} {Q : VK} (ha : SqL K H a (xs.map V.int)) (hb : SqL K H b (ys.map V.int)) (q : Q (.bl (decide (xs = ys))) H) : rEqD K (.ref a) (.ref b) H Q := ⟨_, _, dpI ha, dpI hb, shapedI xs, shapedI ys, by rw [eqvL]; exact q⟩
/-- two ints in order -/
theorem sorted_pm {ns ms : List Int} (p : ms.Perm ns) (s : ms.Pairwise (· ≤ ·)) : ms = [-1, 1] ↔ ns.Perm [-1, 1] := by
  constructor
  · intro e
    rw [e] at p
    exact p.symm
  · intro q
    have r := p.trans q
    have l := r.length_eq
    match ms, l with
    | [x, y], _ =>
      have m1 : (-1 : Int) ∈ [x, y] := r.symm.subset (by simp)
      have m2 : (1 : Int) ∈ [x, y] := r.symm.subset (by simp)
      have le := (List.pairwise_cons.mp s).1 y (by simp)
      simp only [List.mem_cons, List.not_mem_nil, or_false] at m1 m2
      have e1 : x = -1 ∧ y = 1 := by omega
      rw [e1.1, e1.2]
/-! ### forms: coefficients, what they stand for -/
def usedZ (cs : List Int) : List Nat := (List.range cs.length).filter fun k => decide (cs.getD k 0 ≠ 0)
def usedN (cs : List Int) : List Nat := (usedZ cs).map (· + 1)
def numL (cs : List Int) : List Int := (usedZ cs).map fun k => cs.getD k 0
def FormAt (K : PySem.W.Frag) (H : Hp) (f : Addr) (cs : List Int) (lo hi : Int) : Prop := ∃ c : Addr, SqT K H f [.ref c, .int lo, .int hi] ∧ SqT K H c (cs.map V.int)
theorem FormAt.same {K : PySem.W.Frag} {H H' : Hp} {f : Addr} {cs : List Int} {lo hi : Int} (s : Same H H') (h : FormAt K H f cs lo hi) : FormAt K H' f cs lo hi := by
  obtain ⟨c, h1, h2⟩ := h
  exact ⟨c, Same.tup s h1, Same.tup s h2⟩
theorem mem_usedZ {cs : List Int} {k : Nat} : k ∈ usedZ cs ↔ k < cs.length ∧ cs.getD k 0 ≠ 0 := by
  unfold usedZ
  rw [List.mem_filter, List.mem_range, decide_eq_true_eq]
theorem mem_usedN {cs : List Int} {c : Nat} : c ∈ usedN cs ↔ 1 ≤ c ∧ c ≤ cs.length ∧ cs.getD (c - 1) 0 ≠ 0 := by
  unfold usedN
  rw [List.mem_map]
  constructor
  · rintro ⟨k, hk, rfl⟩
    have := mem_usedZ.mp hk
    exact ⟨by omega, by omega, this.2⟩
  · rintro ⟨h1, h2, h3⟩
    exact ⟨c - 1, mem_usedZ.mpr ⟨by omega, h3⟩, by omega⟩
theorem usedZ_len {cs : List Int} : (usedZ cs).length ≤ cs.length := by
  have := List.length_filter_le (fun k => decide (cs.getD k 0 ≠ 0)) (List.range cs.length)
  rw [List.length_range] at this
  exact this
theorem usedN_len {cs : List Int} : (usedN cs).length ≤ cs.length := by
  unfold usedN
  rw [List.length_map]
  exact usedZ_len
/-- the first i places, filtered -/
def usedTo (cs : List Int) (i : Nat) : List Nat := (List.range i).filter fun k => decide (cs.getD k 0 ≠ 0)
theorem usedTo_all {cs : List Int} : usedTo cs cs.length = usedZ cs := rfl
theorem usedTo_yes {cs : List Int} {i : Nat} (h : cs.getD i 0 ≠ 0) : usedTo cs (i + 1) = usedTo cs i ++ [i] := by
  unfold usedTo
  rw [List.range_succ, List.filter_append, List.filter_cons_of_pos (by simpa using h)]
  rfl
theorem usedTo_no {cs : List Int} {i : Nat} (h : cs.getD i 0 = 0) : usedTo cs (i + 1) = usedTo cs i := by
  unfold usedTo
  rw [List.range_succ, List.filter_append, List.filter_cons_of_neg (by simpa using h), List.filter_nil, List.append_nil]
theorem usedTo_len {cs : List Int} {i : Nat} : (usedTo cs i).length ≤ i := by
  have := List.length_filter_le (fun k => decide (cs.getD k 0 ≠ 0)) (List.range i)
  rw [List.length_range] at this
  exact this
/-- one 1, one -1 -/
def IsD (cs : List Int) : Prop := (numL cs).Perm [-1, 1]
/-- the sum of coefficients times values -/
def val (cs p : List Int) : Int := ((List.range cs.length).map fun k => cs.getD k 0 * p.getD k 0).sum
theorem sum_filter {t : Nat → Bool} {g : Nat → Int} : ∀ xs : List Nat, (∀ k ∈ xs, t k = false → g k = 0) → (xs.map g).sum = ((xs.filter t).map g).sum
  | [], _ => rfl
  | x :: xs, h => by
    have ih := sum_filter xs fun k hk => h k (List.mem_cons_of_mem _ hk)
    rw [List.map_cons, List.sum_cons, ih]
    cases e : t x with
    | true => rw [List.filter_cons_of_pos e, List.map_cons, List.sum_cons]
    | false => rw [List.filter_cons_of_neg (by rw [e]; decide), h x List.mem_cons_self e, Int.zero_add]
theorem val_used {cs p : List Int} : val cs p = ((usedZ cs).map fun k => cs.getD k 0 * p.getD k 0).sum := by
  unfold val usedZ
  refine sum_filter _ fun k _ hk => ?_
  have : cs.getD k 0 = 0 := by simpa using hk
  rw [this, Int.zero_mul]
theorem isD_used {cs : List Int} (h : IsD cs) : ∃ a b : Nat, usedZ cs = [a, b] ∧ a < cs.length ∧ b < cs.length ∧ a ≠ b ∧ ((cs.getD a 0 = 1 ∧ cs.getD b 0 = -1) ∨ (cs.getD a 0 = -1 ∧ cs.getD b 0 = 1)) := by
  have l := h.length_eq
  unfold numL at l
  rw [List.length_map] at l
  obtain ⟨a, b, e⟩ : ∃ a b, usedZ cs = [a, b] := by
    match hu : usedZ cs, l with
    | [a, b], _ => exact ⟨a, b, rfl⟩
  have ma := mem_usedZ.mp (show a ∈ usedZ cs by rw [e]; simp)
  have mb := mem_usedZ.mp (show b ∈ usedZ cs by rw [e]; simp)
  have nd : (usedZ cs).Nodup := List.Nodup.sublist List.filter_sublist List.nodup_range
  rw [e] at nd
  have nab : a ≠ b := fun z => by simp [z] at nd
  refine ⟨a, b, e, ma.1, mb.1, nab, ?_⟩
  have h2 : [cs.getD a 0, cs.getD b 0].Perm [-1, 1] := by
    have h1 : (numL cs).Perm [-1, 1] := h
    unfold numL at h1
    rw [e] at h1
    exact h1
  have m1 : (-1 : Int) ∈ [cs.getD a 0, cs.getD b 0] := h2.symm.subset (by simp)
  have m2 : (1 : Int) ∈ [cs.getD a 0, cs.getD b 0] := h2.symm.subset (by simp)
  simp only [List.mem_cons, List.not_mem_nil, or_false] at m1 m2
  omega
/-- which columns: i has the 1, j the -1 -/
def DiffAt (cs : List Int) (i j : Nat) : Prop := 1 ≤ i ∧ i ≤ cs.length ∧ 1 ≤ j ∧ j ≤ cs.length ∧ ∀ p : List Int, val cs p = p.getD (i - 1) 0 - p.getD (j - 1) 0
theorem diffAt_of {cs : List Int} {a b : Nat} (e : usedZ cs = [a, b]) (ha : a < cs.length) (hb : b < cs.length) (h1 : cs.getD a 0 = 1) (h2 : cs.getD b 0 = -1) : DiffAt cs (a + 1) (b + 1) ∧ (usedZ cs = [b, a] → DiffAt cs (a + 1) (b + 1)) := by
  have h : DiffAt cs (a + 1) (b + 1) := by
    refine ⟨by omega, by omega, by omega, by omega, fun p => ?_⟩
    rw [val_used, e]
    show cs.getD a 0 * p.getD a 0 + (cs.getD b 0 * p.getD b 0 + 0) = p.getD a 0 - p.getD b 0
    rw [h1, h2]
    omega
  exact ⟨h, fun _ => h⟩
theorem diffAt_of' {cs : List Int} {a b : Nat} (e : usedZ cs = [a, b]) (ha : a < cs.length) (hb : b < cs.length) (h1 : cs.getD a 0 = -1) (h2 : cs.getD b 0 = 1) : DiffAt cs (b + 1) (a + 1) := by
  refine ⟨by omega, by omega, by omega, by omega, fun p => ?_⟩
  rw [val_used, e]
  show cs.getD a 0 * p.getD a 0 + (cs.getD b 0 * p.getD b 0 + 0) = p.getD b 0 - p.getD a 0
  rw [h1, h2]
  omega
/-- coefficients that are small enough -/
def Cf (cs : List Int) : Prop := ∀ c ∈ cs, -1000000000 ≤ c ∧ c ≤ 1000000000
theorem Cf.get {cs : List Int} (h : Cf cs) {k : Nat} (hk : k < cs.length) : -1000000000 ≤ cs.getD k 0 ∧ cs.getD k 0 ≤ 1000000000 := by
  rw [List.getD_eq_getElem?_getD, List.getElem?_eq_getElem hk]
  exact h _ (List.getElem_mem hk)
/-- the least that a column adds -/
def tmin (M : List (List Int)) (c : Int) (k : Nat) : Int := min (c * -(getM M 0 (k + 1))) (c * getM M (k + 1) 0)
def tmax (M : List (List Int)) (c : Int) (k : Nat) : Int := max (c * -(getM M 0 (k + 1))) (c * getM M (k + 1) 0)
def spanLo (M : List (List Int)) (cs : List Int) (lo : Int) : Int := lo + ((usedZ cs).map fun k => tmin M (cs.getD k 0) k).sum
def spanHi (M : List (List Int)) (cs : List Int) (hi : Int) : Int := hi + ((usedZ cs).map fun k => tmax M (cs.getD k 0) k).sum
/-! ### least and greatest of forms over points (as in Asg25.inc) -/
def RngF (M : List (List Int)) (cs : List Int) (lo hi L G : Int) : Prop := (¬ IsD cs ∧ L = spanLo M cs lo ∧ G = spanHi M cs hi) ∨ ∃ i j, IsD cs ∧ DiffAt cs i j ∧ L = lo - getM M j i ∧ G = hi + getM M i j
def minV (cs : List Int) (Ps : List (List Int)) : Int := -(lmax (Ps.map fun p => -(val cs p)))
def maxV (cs : List Int) (Ps : List (List Int)) : Int := lmax (Ps.map fun p => val cs p)
open Classical in
noncomputable def lowF (cs : List Int) (flo : Int) (Ps : List (List Int)) : Int := if IsD cs then flo + minV cs Ps else spanLo (hullM cs.length Ps) cs flo
open Classical in
noncomputable def highF (cs : List Int) (fhi : Int) (Ps : List (List Int)) : Int := if IsD cs then fhi + maxV cs Ps else spanHi (hullM cs.length Ps) cs fhi
theorem minV_is {cs : List Int} {Ps : List (List Int)} {m : Int} (h1 : ∃ p ∈ Ps, m = val cs p) (h2 : ∀ p ∈ Ps, m ≤ val cs p) : minV cs Ps = m := by
  unfold minV
  obtain ⟨p, hp, e⟩ := h1
  have : lmax (Ps.map fun p => -(val cs p)) = -m := lmax_is (List.mem_map.mpr ⟨p, hp, by rw [e]⟩) fun y hy => by
    obtain ⟨q, hq, rfl⟩ := List.mem_map.mp hy
    have := h2 q hq
    omega
  omega
theorem maxV_is {cs : List Int} {Ps : List (List Int)} {m : Int} (h1 : ∃ p ∈ Ps, m = val cs p) (h2 : ∀ p ∈ Ps, val cs p ≤ m) : maxV cs Ps = m := by
  unfold maxV
  obtain ⟨p, hp, e⟩ := h1
  exact lmax_is (List.mem_map.mpr ⟨p, hp, by rw [e]⟩) fun y hy => by
    obtain ⟨q, hq, rfl⟩ := List.mem_map.mp hy
    exact h2 q hq
theorem diff_val {cs p : List Int} {i j : Nat} (d : DiffAt cs i j) : dif i j p = val cs p := by
  obtain ⟨h1, _, h3, _, hv⟩ := d
  have e : ∀ a, 1 ≤ a → (0 :: p).getD a 0 = p.getD (a - 1) 0 := fun a ha => by
    match a, ha with
    | a + 1, _ => rfl
  unfold dif
  rw [e i h1, e j h3, hv]
theorem rng_is {cs : List Int} {flo fhi L G : Int} {Ps : List (List Int)} (ne : Ps ≠ []) (h : RngF (hullM cs.length Ps) cs flo fhi L G) : L = lowF cs flo Ps ∧ G = highF cs fhi Ps := by
  unfold lowF highF
  rcases h with ⟨nd, h1, h2⟩ | ⟨i, j, d, dij, h1, h2⟩
  · rw [if_neg nd, if_neg nd]
    exact ⟨h1, h2⟩
  · rw [if_pos d, if_pos d]
    obtain ⟨i1, i2, j1, j2, _⟩ := id dij
    obtain ⟨r1, hr1, e1⟩ := hull_at (n := cs.length) ne (show j < cs.length + 1 by omega) (show i < cs.length + 1 by omega)
    obtain ⟨r2, hr2, e2⟩ := hull_at (n := cs.length) ne (show i < cs.length + 1 by omega) (show j < cs.length + 1 by omega)
    have neg : ∀ p : List Int, dif j i p = -(val cs p) := fun p => by
      rw [← diff_val dij]
      unfold dif
      omega
    rw [minV_is (m := val cs r1) ⟨r1, hr1, rfl⟩ fun p hp => ?_, maxV_is (m := val cs r2) ⟨r2, hr2, rfl⟩ fun p hp => ?_]
    · rw [h1, h2, ← e1, ← e2, neg, diff_val dij]
      exact ⟨by omega, rfl⟩
    · have := hull_le (n := cs.length) (show i < cs.length + 1 by omega) (show j < cs.length + 1 by omega) hp
      rw [← e2, diff_val dij, diff_val dij] at this
      exact this
    · have := hull_le (n := cs.length) (show j < cs.length + 1 by omega) (show i < cs.length + 1 by omega) hp
      rw [← e1, neg, neg] at this
      omega
/-! ### law k23: expressions of numbers, and what a form of one is -/
inductive Op where
  | add | sub | mul
deriving DecidableEq
def Op.s : Op → Str
  | .add => "+"
  | .sub => "-"
  | .mul => "*"
inductive Ef where
  | num (i : Int) | var (z : Str) | bin (o : Op) (a b : Ef)
def Op.ap : Op → Int → Int → Int
  | .add, x, y => x + y
  | .sub, x, y => x - y
  | .mul, x, y => x * y
def evE (ρ : Str → Int) : Ef → Int
  | .num i => i
  | .var z => ρ z
  | .bin o a b => o.ap (evE ρ a) (evE ρ b)
def occ (N : List Str) : Ef → Bool
  | .num _ => false
  | .var z => decide (z ∈ N)
  | .bin _ a b => occ N a || occ N b
structure Fm where
  c : Nat → Int
  lo : Int
  hi : Int
def Fm.con (v : Int) : Fm := ⟨fun _ => 0, v, v⟩
def Fm.col (i : Nat) : Fm := ⟨fun k => if k = i then 1 else 0, 0, 0⟩
def Fm.add (f g : Fm) : Fm := ⟨fun k => f.c k + g.c k, f.lo + g.lo, f.hi + g.hi⟩
def Fm.times (f : Fm) (v : Int) : Fm := ⟨fun k => v * f.c k, min (v * f.lo) (v * f.hi), max (v * f.lo) (v * f.hi)⟩
def min4 (a b c d : Int) : Int := min (min a b) (min c d)
def max4 (a b c d : Int) : Int := max (max a b) (max c d)
def Fm.prod (a1 b1 a2 b2 : Int) : Fm := ⟨fun _ => 0, min4 (a1 * a2) (a1 * b2) (b1 * a2) (b1 * b2), max4 (a1 * a2) (a1 * b2) (b1 * a2) (b1 * b2)⟩
noncomputable def Fm.low (n : Nat) (f : Fm) (Ps : List (List Int)) : Int := lowF (mkR n f.c) f.lo Ps
noncomputable def Fm.high (n : Nat) (f : Fm) (Ps : List (List Int)) : Int := highF (mkR n f.c) f.hi Ps
noncomputable def fm (N : List Str) (κ : Str → Int) (n : Nat) (Ps : List (List Int)) : Ef → Fm
  | .num i => .con i
  | .var z => if z ∈ N then .col (N.idxOf z) else .con (κ z)
  | .bin .add a b => (fm N κ n Ps a).add (fm N κ n Ps b)
  | .bin .sub a b => (fm N κ n Ps a).add ((fm N κ n Ps b).times (-1))
  | .bin .mul a b => if occ N a = false then (fm N κ n Ps b).times (fm N κ n Ps a).lo else if occ N b = false then (fm N κ n Ps a).times (fm N κ n Ps b).lo
      else .prod ((fm N κ n Ps a).low n Ps) ((fm N κ n Ps a).high n Ps) ((fm N κ n Ps b).low n Ps) ((fm N κ n Ps b).high n Ps)
theorem Fm.eq {f g : Fm} (h1 : ∀ k, f.c k = g.c k) (h2 : f.lo = g.lo) (h3 : f.hi = g.hi) : f = g := by
  cases f
  cases g
  cases h2
  cases h3
  congr 1
  exact funext h1
/-! ### factors -/
theorem min_mul {c x y z w : Int} (h1 : x ≤ y) (h2 : z ≤ w) : min (c * (x + z)) (c * (y + w)) = min (c * x) (c * y) + min (c * z) (c * w) ∧ max (c * (x + z)) (c * (y + w)) = max (c * x) (c * y) + max (c * z) (c * w) := by
  rw [Int.mul_add, Int.mul_add]
  by_cases c0 : 0 ≤ c
  · have a1 := Int.mul_le_mul_of_nonneg_left h1 c0
    have a2 := Int.mul_le_mul_of_nonneg_left h2 c0
    omega
  · have a1 := Int.mul_le_mul_of_nonpos_left (show c ≤ 0 by omega) h1
    have a2 := Int.mul_le_mul_of_nonpos_left (show c ≤ 0 by omega) h2
    omega
theorem times_add {A B : Fm} {c : Int} (h1 : A.lo ≤ A.hi) (h2 : B.lo ≤ B.hi) : (A.add B).times c = (A.times c).add (B.times c) :=
  Fm.eq (fun k => Int.mul_add _ _ _) (min_mul h1 h2).1 (min_mul h1 h2).2
theorem min_min_mul {c v x y : Int} : min (c * min (v * x) (v * y)) (c * max (v * x) (v * y)) = min (c * v * x) (c * v * y) ∧ max (c * min (v * x) (v * y)) (c * max (v * x) (v * y)) = max (c * v * x) (c * v * y) := by
  rw [Int.mul_assoc, Int.mul_assoc]
  generalize v * x = X
  generalize v * y = Y
  by_cases h : X ≤ Y
  · have e1 : min X Y = X := by omega
    have e2 : max X Y = Y := by omega
    rw [e1, e2]
    exact ⟨rfl, rfl⟩
  · have e1 : min X Y = Y := by omega
    have e2 : max X Y = X := by omega
    rw [e1, e2]
    omega
theorem times_times {B : Fm} {v c : Int} : (B.times v).times c = B.times (c * v) :=
  Fm.eq (fun k => (Int.mul_assoc _ _ _).symm) min_min_mul.1 min_min_mul.2
theorem add_assoc' {t A B : Fm} : (t.add A).add B = t.add (A.add B) := Fm.eq (fun k => Int.add_assoc _ _ _) (Int.add_assoc _ _ _) (Int.add_assoc _ _ _)
theorem con_times {v c : Int} : (Fm.con v).times c = Fm.con (c * v) := Fm.eq (fun k => Int.mul_zero _) (by show min (c * v) (c * v) = c * v; omega) (by show max (c * v) (c * v) = c * v; omega)
theorem times_one {A : Fm} (h : A.lo ≤ A.hi) : A.times 1 = A := Fm.eq (fun k => Int.one_mul _) (by show min (1 * A.lo) (1 * A.hi) = A.lo; omega) (by show max (1 * A.lo) (1 * A.hi) = A.hi; omega)
theorem le_times {A : Fm} {c : Int} : (A.times c).lo ≤ (A.times c).hi := by
  show min _ _ ≤ max _ _
  omega
theorem fm_le {N : List Str} {κ : Str → Int} {n : Nat} {Ps : List (List Int)} : ∀ e : Ef, (fm N κ n Ps e).lo ≤ (fm N κ n Ps e).hi
  | .num i => Int.le_refl _
  | .var z => by
    unfold fm
    split
    · exact Int.le_refl _
    · exact Int.le_refl _
  | .bin .add a b => by
    have h1 := fm_le (N := N) (κ := κ) (n := n) (Ps := Ps) a
    have h2 := fm_le (N := N) (κ := κ) (n := n) (Ps := Ps) b
    show _ + _ ≤ _ + _
    omega
  | .bin .sub a b => by
    have h1 := fm_le (N := N) (κ := κ) (n := n) (Ps := Ps) a
    have h2 := le_times (A := fm N κ n Ps b) (c := -1)
    show _ + _ ≤ _ + _
    omega
  | .bin .mul a b => by
    unfold fm
    split
    · exact le_times
    · split
      · exact le_times
      · show min4 _ _ _ _ ≤ max4 _ _ _ _
        unfold min4 max4
        omega
theorem fm_const {N : List Str} {κ : Str → Int} {n : Nat} {Ps : List (List Int)} : ∀ e : Ef, occ N e = false → fm N κ n Ps e = .con (evE κ e)
  | .num i, _ => rfl
  | .var z, h => by
    unfold fm
    rw [if_neg (of_decide_eq_false h)]
    rfl
  | .bin .add a b, h => by
    have h := Bool.or_eq_false_iff.mp h
    show (fm N κ n Ps a).add (fm N κ n Ps b) = _
    rw [fm_const a h.1, fm_const b h.2]
    exact Fm.eq (fun k => Int.add_zero _) rfl rfl
  | .bin .sub a b, h => by
    have h := Bool.or_eq_false_iff.mp h
    show (fm N κ n Ps a).add ((fm N κ n Ps b).times (-1)) = _
    rw [fm_const a h.1, fm_const b h.2, con_times]
    refine Fm.eq (fun k => Int.add_zero _) ?_ ?_
    · show evE κ a + -1 * evE κ b = evE κ a - evE κ b
      omega
    · show evE κ a + -1 * evE κ b = evE κ a - evE κ b
      omega
  | .bin .mul a b, h => by
    have h := Bool.or_eq_false_iff.mp h
    unfold fm
    rw [if_pos h.1, fm_const a h.1, fm_const b h.2, con_times]
    rfl
/-! ### the law's own way: a table, and a form with a factor added to it -/
noncomputable def tb (N : List Str) (κ : Str → Int) (n : Nat) (Ps : List (List Int)) (t : Fm) (e : Ef) (c : Int) : Fm := t.add ((fm N κ n Ps e).times c)
theorem tb_const {N : List Str} {κ : Str → Int} {n : Nat} {Ps : List (List Int)} {t : Fm} {e : Ef} {c : Int} (h : occ N e = false) : tb N κ n Ps t e c = ⟨t.c, t.lo + c * evE κ e, t.hi + c * evE κ e⟩ := by
  unfold tb
  rw [fm_const e h, con_times]
  exact Fm.eq (fun k => Int.add_zero _) rfl rfl
theorem tb_add {N : List Str} {κ : Str → Int} {n : Nat} {Ps : List (List Int)} {t : Fm} {a b : Ef} {c : Int} : tb N κ n Ps t (.bin .add a b) c = tb N κ n Ps (tb N κ n Ps t a c) b c := by
  unfold tb
  show t.add (((fm N κ n Ps a).add (fm N κ n Ps b)).times c) = _
  rw [times_add (fm_le a) (fm_le b), add_assoc']
theorem tb_sub {N : List Str} {κ : Str → Int} {n : Nat} {Ps : List (List Int)} {t : Fm} {a b : Ef} {c : Int} : tb N κ n Ps t (.bin .sub a b) c = tb N κ n Ps (tb N κ n Ps t a c) b (-c) := by
  unfold tb
  show t.add (((fm N κ n Ps a).add ((fm N κ n Ps b).times (-1))).times c) = _
  rw [times_add (fm_le a) le_times, times_times, add_assoc', show c * -1 = -c by omega]
theorem tb_mulL {N : List Str} {κ : Str → Int} {n : Nat} {Ps : List (List Int)} {t : Fm} {a b : Ef} {c : Int} (h : occ N a = false) : tb N κ n Ps t (.bin .mul a b) c = tb N κ n Ps t b (c * evE κ a) := by
  unfold tb
  have e : fm N κ n Ps (.bin .mul a b) = (fm N κ n Ps b).times (evE κ a) := by
    rw [fm, if_pos h, fm_const a h]
    rfl
  rw [e, times_times]
theorem tb_mulR {N : List Str} {κ : Str → Int} {n : Nat} {Ps : List (List Int)} {t : Fm} {a b : Ef} {c : Int} (h1 : occ N a = true) (h : occ N b = false) : tb N κ n Ps t (.bin .mul a b) c = tb N κ n Ps t a (c * evE κ b) := by
  unfold tb
  have e : fm N κ n Ps (.bin .mul a b) = (fm N κ n Ps a).times (evE κ b) := by
    rw [fm, if_neg (by rw [h1]; decide), if_pos h, fm_const b h]
    rfl
  rw [e, times_times]
theorem min4_mul {c a b d e : Int} : min (c * min4 a b d e) (c * max4 a b d e) = min4 (c * a) (c * b) (c * d) (c * e) ∧ max (c * min4 a b d e) (c * max4 a b d e) = max4 (c * a) (c * b) (c * d) (c * e) := by
  have two : ∀ x y : Int, x ≤ y → (0 ≤ c → c * x ≤ c * y) ∧ (c ≤ 0 → c * y ≤ c * x) := fun x y h => ⟨fun h0 => Int.mul_le_mul_of_nonneg_left h h0, fun h0 => Int.mul_le_mul_of_nonpos_left h0 h⟩
  have mm : ∀ x y : Int, (0 ≤ c → c * min x y = min (c * x) (c * y) ∧ c * max x y = max (c * x) (c * y)) ∧ (c ≤ 0 → c * min x y = max (c * x) (c * y) ∧ c * max x y = min (c * x) (c * y)) := fun x y => by
    by_cases h : x ≤ y
    · have := two x y h
      rw [Int.min_eq_left h, Int.max_eq_right h]
      exact ⟨fun h0 => by have := this.1 h0; omega, fun h0 => by have := this.2 h0; omega⟩
    · have := two y x (by omega)
      rw [Int.min_eq_right (by omega), Int.max_eq_left (by omega)]
      exact ⟨fun h0 => by have := this.1 h0; omega, fun h0 => by have := this.2 h0; omega⟩
  unfold min4 max4
  by_cases c0 : 0 ≤ c
  · rw [((mm _ _).1 c0).1, ((mm _ _).1 c0).2, ((mm a b).1 c0).1, ((mm a b).1 c0).2, ((mm d e).1 c0).1, ((mm d e).1 c0).2]
    omega
  · have c1 : c ≤ 0 := by omega
    rw [((mm _ _).2 c1).1, ((mm _ _).2 c1).2, ((mm a b).2 c1).1, ((mm a b).2 c1).2, ((mm d e).2 c1).1, ((mm d e).2 c1).2]
    omega
theorem tb_prod {N : List Str} {κ : Str → Int} {n : Nat} {Ps : List (List Int)} {t : Fm} {a b : Ef} {c : Int} (h1 : occ N a = true) (h2 : occ N b = true) {a1 b1 a2 b2 : Int} (e1 : a1 = (fm N κ n Ps a).low n Ps) (e2 : b1 = (fm N κ n Ps a).high n Ps) (e3 : a2 = (fm N κ n Ps b).low n Ps) (e4 : b2 = (fm N κ n Ps b).high n Ps) :
    tb N κ n Ps t (.bin .mul a b) c = ⟨t.c, t.lo + min4 (c * (a1 * a2)) (c * (a1 * b2)) (c * (b1 * a2)) (c * (b1 * b2)), t.hi + max4 (c * (a1 * a2)) (c * (a1 * b2)) (c * (b1 * a2)) (c * (b1 * b2))⟩ := by
  unfold tb
  have e : fm N κ n Ps (.bin .mul a b) = .prod a1 b1 a2 b2 := by
    rw [fm, if_neg (by rw [h1]; decide), if_neg (by rw [h2]; decide), e1, e2, e3, e4]
  rw [e]
  refine Fm.eq (fun k => ?_) ?_ ?_
  · show t.c k + c * 0 = t.c k
    omega
  · show t.lo + min (c * min4 _ _ _ _) (c * max4 _ _ _ _) = _
    rw [min4_mul.1]
  · show t.hi + max (c * min4 _ _ _ _) (c * max4 _ _ _ _) = _
    rw [min4_mul.2]
/-! ### forms: the program -/
theorem bb_sorted : bootBuiltins "sorted" = some (.builtin "sorted") := by decide +kernel
def spFormU (K : PySem.W.Frag) : Sp := fun vs H Q _ => ∃ (f : Addr) (cs : List Int) (lo hi : Int), vs = [.ref f] ∧ FormAt K H f cs lo hi ∧ cs.length ≤ 900 ∧ ∀ q H', Same H H' → H' q = some (.lst (natsV (usedN cs))) → Q (.ref q) H'
def spFormD (K : PySem.W.Frag) : Sp := fun vs H Q _ => ∃ (f : Addr) (cs : List Int) (lo hi : Int), vs = [.ref f] ∧ FormAt K H f cs lo hi ∧ cs.length ≤ 63 ∧
  (∀ H', Same H H' → ¬ IsD cs → Q .non H') ∧ ∀ q H' i j, Same H H' → IsD cs → DiffAt cs i j → H' q = some (.tup [.int (i : Nat), .int (j : Nat)]) → Q (.ref q) H'
def spFormT (K : PySem.W.Frag) : Sp := fun vs H Q _ => ∃ (f : Addr) (cs : List Int) (lo hi : Int), vs = [.ref f, .int (-1)] ∧ FormAt K H f cs lo hi ∧ cs.length ≤ 900 ∧ lo ≤ hi ∧ ∀ q H', Same H H' → FormAt K H' q (cs.map fun c => -c) (-hi) (-lo) → Q (.ref q) H'
theorem natsU_len {cs : List Int} : (natsV (usedN cs)).length = (usedZ cs).length := by simp [natsV, usedN]
theorem natsU_get {cs : List Int} {j k : Nat} (e : (usedZ cs)[j]? = some k) : (natsV (usedN cs))[j]? = some (.int ((k + 1 : Nat) : Int)) := by
  unfold natsV usedN
  rw [List.map_map]
  exact map_get e
theorem coef_at {cs : List Int} {k : Nat} (h : k < cs.length) : atI (cs.map V.int) (((k + 1 : Nat) : Int) - 1) = some (.int (cs.getD k 0)) := by
  rw [show ((k + 1 : Nat) : Int) - 1 = (k : Int) by omega]
  exact atI_nat (map_get (by rw [List.getD_eq_getElem?_getD, List.getElem?_eq_getElem h]; rfl))
section
variable {P : Program} {w : World} {K : PySem.W.Frag} {mg : Str → Option Value} {base : Heap}
theorem ok_used_columns (T : Txt w K mg) : FnOk P w K mg base CX0 1 T.a_used_columns T.d_used_columns p_used_columns (spFormU K) := by
  refine T.F_used_columns.ok sc_used_columns (fun vs H Q E h => ?_) (fun cdv A outer s H vs Q E hr h => ?_)
  · obtain ⟨f, cs, lo, hi, rfl, _⟩ := h
    rfl
  obtain ⟨f, cs, lo, hi, rfl, ⟨c, hf, hc⟩, lc, q⟩ := h
  refine ⟨_, (pss_one (ps_ret (pe_lc (own := [("at", 1), ("each", 2)]) (g := gTup K 2 (gCons (gName 1) (gCons (gName 2) gNil))) rfl sc_used_columns.nd (EnT.pi_enumG (by rfl) T.z_enumerate (pa_cons (pe_ix ix_tup (pv 0) pe_int (fun _ _ => rfl)) pa_nil)) (blkOk_by (own := [("at", 1), ("each", 2)]) (N := n_used_columns) (sc := defScope s_used_columns) (by decide +kernel)) (fun _ _ _ _ _ => (pg_tup rfl (pgs_cons (pg_name (i := 1) sc_used_columns.nd rfl (Or.inl rfl)) (pgs_cons (pg_name (i := 2) sc_used_columns.nd rfl (Or.inl rfl)) pgs_nil)))) (fun _ _ _ _ _ => (pts_one (pt_cmpR op_ne (pv 2) pe_int (nomark _)))) (fun _ _ _ _ _ => (pe_op op_add (pv 1) pe_int))))), ?_⟩
  refine ⟨_, rfl, f, _, _, _, rfl, rfl, hf, rfl, true, c, _, rfl, hc, fun D hD => ?_⟩
  refine lc_it EnT.walk_enumG (fun i G => Same H G ∧ G D = some (.lst (natsV ((usedTo cs i).map (· + 1))))) ⟨Same.new hD _, upd_same⟩ (fun i G _ P => Sq.same (t := true) P.1 hc) ?_ ?_
  · rintro i x G G' hi P ⟨t, u, v, rfl, ht, rfl, eu, ev⟩
    cases eu
    rw [List.length_map] at hi
    obtain ⟨k, ek, rfl⟩ := get_int ev
    have gk : cs.getD i 0 = k := by rw [List.getD_eq_getElem?_getD, ek]; rfl
    have s1 : Same G (upd G t (.tup [.int i, .int k])) := Same.new ht _
    have eD := s1 _ _ P.2
    have sA := P.1.trans s1
    refine ⟨t, _, rfl, SqT.of upd_same, rfl, _, _, rfl, _, _, rfl, rfl, ?_⟩
    refine ⟨rfl, ?_⟩
    refine ⟨_, rfl, rfl, _, rfl, ite2 (fun h => ?_) (fun h => ?_)⟩
    · have nz : cs.getD i 0 ≠ 0 := fun z => by
        rw [gk] at z
        rw [z] at h
        exact absurd h (by decide)
      refine ⟨_, rfl, _, _, rfl, rfl, _, eD, lt_line (by simp only [natsV, List.length_map]; have := usedTo_len (cs := cs) (i := i); omega), fun b o e => ?_, ?_⟩
      · rw [upd_ne (ne_of_none e hD)]
        exact sA _ _ e
      · rw [usedTo_yes nz, List.map_append]
        simp only [natsV, List.map_append]
        exact upd_same
    · have z : cs.getD i 0 = 0 := by
        rw [gk]
        by_cases z : k = 0
        · exact z
        · exact absurd (by rw [decide_eq_false (fun e => z (V.int.inj e))]; rfl) h
      rw [usedTo_no z]
      exact ⟨sA, eD⟩
  · rintro G ⟨sG, eG⟩
    rw [List.length_map, usedTo_all] at eG
    exact q D G sG eG
theorem ok_difference_columns (T : Txt w K mg) : FnOk P w K mg base CX0 2 T.a_difference_columns T.d_difference_columns p_difference_columns (spFormD K) := by
  have g_used_columns := ok_used_columns (P := P) (w := w) (K := K) (base := base) T
  refine T.F_difference_columns.ok sc_difference_columns (fun vs H Q E h => ?_) (fun cdv A outer s H vs Q E hr h => ?_)
  · obtain ⟨f, cs, lo, hi, rfl, _⟩ := h
    rfl
  obtain ⟨f, cs, lo, hi, rfl, hF, lc, qn, qy⟩ := h
  refine ⟨_, (pss_cons (ps_set (i := 1) sc_difference_columns.nd rfl (Or.inl rfl) (pe_call g_used_columns (hr.mono (by first | decide | omega)) rfl T.m_used_columns T.F_used_columns.kp T.b_used_columns .nil pass0 (pa_cons (pv 0) pa_nil)))
      (pss_cons (ps_if (pt_cmpR (op_neD hr.units) (pe_callB (cr_sorted) rfl T.z_sorted bb_sorted (pa_cons (pe_lc (own := [("column", 2)]) (g := gName 2) (tt := tYes) rfl sc_difference_columns.nd (pi_list (pv 1)) (blkOk_by (own := [("column", 2)]) (N := n_difference_columns) (sc := defScope s_difference_columns) (by decide +kernel)) (fun _ _ _ _ _ => (pg_name (i := 2) sc_difference_columns.nd rfl (Or.inl rfl))) (fun _ _ _ _ _ => pts_nil) (fun _ _ _ _ _ => (pe_ix (show IxR _ (rIxT K) from ix_tup) (pe_ix (show IxR _ (rIxT K) from ix_tup) (pv 0) pe_int (fun _ _ => rfl)) (pe_op op_sub (pv 2) pe_int) (fun _ _ => rfl)))) pa_nil)) (pe_lst (pa_cons (pe_un un_neg pe_int) (pa_cons pe_int pa_nil))) (nomark _)) (pss_one (ps_ret pe_non)) pss_nil)
      (pss_cons (ps_asg (pv 1) (pg_unl rfl (pgs_cons (pg_name (i := 3) sc_difference_columns.nd rfl (Or.inl rfl)) (pgs_cons (pg_name (i := 4) sc_difference_columns.nd rfl (Or.inl rfl)) pgs_nil))))
      (pss_one (ps_ret (pe_ifExp (pt_cmpR op_eq (pe_ix ix_tup (pe_ix ix_tup (pv 0) pe_int (fun _ _ => rfl)) (pe_op op_sub (pv 3) pe_int) (fun _ _ => rfl)) pe_int (nomark _)) (pe_tup (pa_cons (pv 3) (pa_cons (pv 4) pa_nil))) (pe_tup (pa_cons (pv 4) (pa_cons (pv 3) pa_nil))))))))), ?_⟩
  refine ⟨_, rfl, f, cs, lo, hi, rfl, hF, by omega, fun u G su hu => ?_⟩
  obtain ⟨c, hf, hc⟩ := id hF
  refine ⟨_, rfl, u, rfl, ⟨_, SqL.of hu⟩, fun D hD => ?_⟩
  refine lc_it (walk_list (xs := natsV (usedN cs))) (LcP (Same G) (RInt (numL cs)) D) (lcp_start hD) (fun i G2 _ P => SqL.of (P.1 _ _ hu)) ?_ ?_
  · rintro j x F F' hj P ⟨rfl, ex⟩
    rw [natsU_len] at hj
    have ek : (usedZ cs)[j]? = some (usedZ cs)[j] := List.getElem?_eq_getElem hj
    have mk := mem_usedZ.mp (List.getElem_mem hj)
    generalize (usedZ cs)[j] = k at ek mk
    rw [natsU_get ek] at ex
    obtain rfl := Option.some.inj ex
    refine ⟨rfl, tyes ?_⟩
    refine ⟨_, rfl, f, _, _, _, rfl, rfl, Same.tup (su.trans P.1) hf, rfl, _, rfl, _, _, rfl, rfl, c, _, _, _, rfl, rfl, Same.tup (su.trans P.1) hc, coef_at mk.1, ?_⟩
    exact lcp_same P hD (Same.refl _) (lt_line (by have := usedZ_len (cs := cs); omega)) RInt.mono ⟨_, map_get ek, rfl⟩
  · intro F P
    have ei := lcp_ints (K := K) P (by rw [natsU_len]; simp [numL])
    have lz := usedZ_len (cs := cs)
    refine ⟨D, numL cs, rfl, SqL.of ei, by unfold numL; rw [List.length_map]; omega, fun ns' p pm srt hp => ?_⟩
    refine ⟨_, rfl, (by show 2 ≤ sizeLine; decide), fun e he => ?_⟩
    have s1 := Same.new hp (.lst (ns'.map V.int))
    have s2 := Same.new he (.lst [.int (-1), .int 1])
    have sA := ((su.trans P.1).trans s1).trans s2
    refine neI (ys := [-1, 1]) (SqL.of (s2 _ _ upd_same)) (SqL.of upd_same) ⟨_, rfl, ite2 (fun h => ?_) (fun h => ?_)⟩
    · refine qn _ sA fun d => ?_
      rw [(sorted_pm pm srt).mpr d] at h
      exact absurd h (by decide)
    · have d : IsD cs := (sorted_pm pm srt).mp (by
        by_cases z : ns' = [-1, 1]
        · exact z
        · exact absurd (by rw [decide_eq_false z]; rfl) h)
      obtain ⟨a, b, eU, la, lb, nab, alt⟩ := isD_used d
      have eN : natsV (usedN cs) = [.int ((a + 1 : Nat) : Int), .int ((b + 1 : Nat) : Int)] := by
        unfold natsV usedN
        rw [eU]
        rfl
      rw [eN] at hu
      refine ⟨_, rfl, u, _, rfl, SqL.of (s2 _ _ (s1 _ _ (P.1 _ _ hu))), rfl, _, _, rfl, _, _, rfl, rfl, ?_⟩
      refine ⟨_, rfl, f, _, _, _, rfl, rfl, Same.tup sA hf, rfl, _, rfl, _, _, rfl, rfl, c, _, _, _, rfl, rfl, Same.tup sA hc, coef_at la, ?_⟩
      refine ⟨rfl, _, rfl, ite2 (fun h1 => ?_) (fun h1 => ?_)⟩
      · have e1 : cs.getD a 0 = 1 := V.int.inj (of_decide_eq_true h1)
        have e2 : cs.getD b 0 = -1 := by omega
        refine ⟨_, rfl, _, rfl, (by show 2 ≤ sizeLine; decide), fun q hq => ?_⟩
        exact qy q _ _ _ (sA.trans (Same.new hq _)) d (diffAt_of eU la lb e1 e2).1 upd_same
      · have e1 : cs.getD a 0 ≠ 1 := fun z => h1 (decide_eq_true (congrArg V.int z))
        refine ⟨_, rfl, _, rfl, (by show 2 ≤ sizeLine; decide), fun q hq => ?_⟩
        exact qy q _ _ _ (sA.trans (Same.new hq _)) d (diffAt_of' eU la lb (by omega) (by omega)) upd_same
end
/-! ### has_point, range_of, least_point, greatest_point -/
theorem Mx.get {K : PySem.W.Frag} {H : Hp} {p : Addr} {M : List (List Int)} {i : Nat} {r : List Int} (h : Mx true true K H p M) (e : M[i]? = some r) : ∃ (vs : List V) (a : Addr), SqT K H p vs ∧ atI vs (i : Int) = some (.ref a) ∧ SqT K H a (r.map V.int) := by
  obtain ⟨as, h1, h2, h3⟩ := h
  have hi : i < M.length := (List.getElem?_eq_some_iff.mp e).1
  have ea : as[i]? = some (as[i]'(by omega)) := List.getElem?_eq_getElem _
  exact ⟨_, _, h1, atI_nat (map_get ea), h3 i _ r ea e⟩
def spRange (K : PySem.W.Frag) : Sp := fun vs H Q _ => ∃ (p : Addr) (M : List (List Int)) (n i : Nat), vs = [.ref p, .int i] ∧ n ≤ 900 ∧ Mx true true K H p M ∧ Sz (n + 1) M ∧ i ≤ n ∧ ∀ t H', Same H H' → SqT K H' t ([-(getM M 0 i), getM M i 0].map V.int) → Q (.ref t) H'
/-- a row, or None -/
def RowAt (K : PySem.W.Frag) (H : Hp) (v : V) : Option (List Int) → Prop
  | none => v = .non
  | some r => ∃ p, v = .ref p ∧ SqT K H p (r.map V.int)
def leastM (n : Nat) (M : List (List Int)) : List Int := (List.range n).map fun k => -(getM M 0 (k + 1))
def greatM (n : Nat) (M : List (List Int)) : List Int := (List.range n).map fun k => getM M (k + 1) 0
def spEnd (K : PySem.W.Frag) (f : Nat → List (List Int) → List Int) : Sp := fun vs H Q _ => ∃ (va : V) (A : Option (List (List Int))) (n : Nat), vs = [va] ∧ n ≤ 900 ∧ BoxAt K H va A ∧ BSz (n + 1) A ∧ ∀ v H', Same H H' → RowAt K H' v (A.map (f n)) → Q v H'
section
variable {P : Program} {w : World} {K : PySem.W.Frag} {mg : Str → Option Value} {base : Heap}
theorem ok_range_of (T : Txt w K mg) : FnOk P w K mg base CX0 1 T.a_range_of T.d_range_of p_range_of (spRange K) := by
  refine T.F_range_of.ok sc_range_of (fun vs H Q E h => ?_) (fun cdv A outer s H vs Q E hr h => ?_)
  · obtain ⟨p, M, n, i, rfl, _⟩ := h
    rfl
  obtain ⟨p, M, n, i, rfl, hn, hM, sM, hi, q⟩ := h
  refine ⟨_, (pss_one (ps_ret (pe_tup (pa_cons (pe_un un_neg (pe_ix ix_tup (pe_ix ix_tup (pv 0) pe_int (fun _ _ => rfl)) (pv 1) (fun _ _ => rfl))) (pa_cons (pe_ix ix_tup (pe_ix ix_tup (pv 0) (pv 1) (fun _ _ => rfl)) pe_int (fun _ _ => rfl)) pa_nil))))), ?_⟩
  obtain ⟨r0, e0, l0, g0⟩ := sM.at2 (i := 0) (j := i) (by omega) (by omega)
  obtain ⟨ri, ei, li, gi⟩ := sM.at2 (i := i) (j := 0) (by omega) (by omega)
  obtain ⟨vs, a, h1, h2, h3⟩ := hM.get e0
  obtain ⟨vs', a', k1, k2, k3⟩ := hM.get ei
  refine ⟨_, rfl, p, _, _, _, rfl, rfl, h1, h2, _, rfl, a, _, _, _, rfl, rfl, h3, atI_nat (map_get g0), _, rfl, ?_⟩
  refine ⟨_, rfl, _, rfl, p, _, _, _, rfl, rfl, k1, k2, a', _, _, _, rfl, rfl, k3, atI_nat (map_get gi), (by show 2 ≤ sizeLine; decide), fun t ht => ?_⟩
  exact q t _ (Same.new ht _) (SqT.of upd_same)
end
/-! ### forms of expressions: the program -/
def FmAt (K : PySem.W.Frag) (H : Hp) (f : Addr) (n : Nat) (F : Fm) : Prop := FormAt K H f (mkR n F.c) F.lo F.hi
theorem FmAt.same {K : PySem.W.Frag} {H H' : Hp} {f : Addr} {n : Nat} {F : Fm} (s : Same H H') (h : FmAt K H f n F) : FmAt K H' f n F := FormAt.same s h
def Bd (e : Nat) (x : Int) : Prop := x.natAbs < 2 ^ e
structure FmB (e n : Nat) (F : Fm) : Prop where
  c : ∀ k < n, Bd e (F.c k)
  l : Bd e F.lo
  h : Bd e F.hi
theorem mulW {a b : Nat} {x y : Int} (hx : Bd a x) (hy : Bd b y) (ha : a ≤ 200000) (hb : b ≤ 200000) : CMulW x y := by
  unfold CMulW
  have h : ∀ {e : Nat} {z : Int}, Bd e z → z.natAbs.log2 ≤ e := fun {e z} hz => by
    by_cases z0 : z.natAbs = 0
    · rw [z0]
      exact Nat.zero_le _
    · exact Nat.le_of_lt ((Nat.log2_lt z0).mpr (Nat.lt_of_lt_of_le hz (Nat.le_refl _)))
  have h1 := h hx
  have h2 := h hy
  omega
def spCon (K : PySem.W.Frag) : Sp := fun vs H Q _ => ∃ (v : Int) (p : Addr) (M : List (List Int)) (n : Nat), vs = [.int v, .ref p] ∧ n ≤ 60 ∧ Mx true true K H p M ∧ Sz (n + 1) M ∧ ∀ q H', Same H H' → FmAt K H' q n (.con v) → Q (.ref q) H'
def spCol (K : PySem.W.Frag) : Sp := fun vs H Q _ => ∃ (i : Nat) (p : Addr) (M : List (List Int)) (n : Nat), vs = [.int ((i + 1 : Nat) : Int), .ref p] ∧ n ≤ 60 ∧ Mx true true K H p M ∧ Sz (n + 1) M ∧ ∀ q H', Same H H' → FmAt K H' q n (.col i) → Q (.ref q) H'
def spSum (K : PySem.W.Frag) : Sp := fun vs H Q _ => ∃ (f g : Addr) (F G : Fm) (n : Nat), vs = [.ref f, .ref g] ∧ n ≤ 60 ∧ FmAt K H f n F ∧ FmAt K H g n G ∧ ∀ q H', Same H H' → FmAt K H' q n (F.add G) → Q (.ref q) H'
def spTms (K : PySem.W.Frag) : Sp := fun vs H Q _ => ∃ (f : Addr) (v : Int) (F : Fm) (n e1 e2 : Nat), vs = [.ref f, .int v] ∧ n ≤ 60 ∧ FmAt K H f n F ∧ FmB e1 n F ∧ Bd e2 v ∧ e1 ≤ 200000 ∧ e2 ≤ 200000 ∧ ∀ q H', Same H H' → FmAt K H' q n (F.times v) → Q (.ref q) H'
def spDif (K : PySem.W.Frag) : Sp := fun vs H Q _ => ∃ (f g : Addr) (F G : Fm) (n e : Nat), vs = [.ref f, .ref g] ∧ n ≤ 60 ∧ FmAt K H f n F ∧ FmAt K H g n G ∧ FmB e n G ∧ e ≤ 200000 ∧ ∀ q H', Same H H' → FmAt K H' q n (F.add (G.times (-1))) → Q (.ref q) H'
theorem rep0 {n : Nat} : (List.replicate n [V.int 0]).flatten = (mkR n fun _ => (0 : Int)).map V.int := by
  have e : mkR n (fun _ => (0 : Int)) = List.replicate n 0 := by
    unfold mkR
    refine List.ext_getElem (by rw [List.length_map, List.length_range, List.length_replicate]) fun k h1 h2 => ?_
    rw [List.getElem_map, List.getElem_replicate]
  rw [e]
  clear e
  induction n with
  | zero => rfl
  | succ n ih => rw [List.replicate_succ, List.replicate_succ, List.flatten_cons, ih, List.map_cons]; rfl
section
variable {P : Program} {w : World} {K : PySem.W.Frag} {mg : Str → Option Value} {base : Heap}
theorem ok_constant_form (T : Txt w K mg) : FnOk P w K mg base CX0 1 T.a_constant_form T.d_constant_form p_constant_form (spCon K) := by
  refine T.F_constant_form.ok sc_constant_form (fun vs H Q E h => ?_) (fun cdv A outer s H vs Q E hr h => ?_)
  · obtain ⟨v, p, M, n, rfl, _⟩ := h
    rfl
  obtain ⟨v, p, M, n, rfl, hn, hM, sM, q⟩ := h
  refine ⟨_, (pss_one (ps_ret (pe_tup (pa_cons (pe_op RpT.op_repTA (pe_tup (pa_cons pe_int pa_nil)) (pe_op op_sub (pe_callB call_len_seq rfl T.z_len PySem.boot_len (pa_cons (pv 1) pa_nil)) pe_int)) (pa_cons (pv 0) (pa_cons (pv 0) pa_nil)))))), ?_⟩
  obtain ⟨bs, hbs, lbs, _⟩ := id hM
  refine ⟨(by show 1 ≤ sizeLine; decide), fun z hz => ?_⟩
  have sz := Same.new hz (.tup [.int 0])
  refine ⟨_, rfl, p, _, rfl, .inr (Same.tup sz hbs), _, _, rfl, rfl, ?_⟩
  have ln : (((bs.map V.ref).length : Nat) : Int) - 1 = (n : Int) := by
    rw [List.length_map, lbs, sM.1]
    omega
  refine ⟨z, _, _, rfl, rfl, SqT.of upd_same, by simp, by rw [ln]; omega, by rw [ln]; omega, by show 1 ≤ 1000; decide, fun e1 => ?_, fun e1 p2 hp2 => ?_⟩
  · have n1 : n = 1 := by omega
    subst n1
    refine ⟨_, rfl, _, rfl, (by show 3 ≤ sizeLine; decide), fun q2 hq2 => ?_⟩
    have s2 := Same.new hq2 (.tup [.ref z, .int v, .int v])
    exact q q2 _ (sz.trans s2) ⟨z, SqT.of upd_same, SqT.of (s2 _ _ upd_same)⟩
  · rw [ln, Int.toNat_natCast, rep0] at *
    refine ⟨_, rfl, _, rfl, (by show 3 ≤ sizeLine; decide), fun q2 hq2 => ?_⟩
    have s2 := Same.new hq2 (.tup [.ref p2, .int v, .int v])
    exact q q2 _ ((sz.trans (Same.new hp2 _)).trans s2) ⟨p2, SqT.of upd_same, SqT.of (s2 _ _ upd_same)⟩
theorem ok_column_form (T : Txt w K mg) : FnOk P w K mg base CX0 1 T.a_column_form T.d_column_form p_column_form (spCol K) := by
  refine T.F_column_form.ok sc_column_form (fun vs H Q E h => ?_) (fun cdv A outer s H vs Q E hr h => ?_)
  · obtain ⟨i, p, M, n, rfl, _⟩ := h
    rfl
  obtain ⟨i, p, M, n, rfl, hn, hM, sM, q⟩ := h
  refine ⟨_, (pss_cons (ps_setLc (i := 2) (own := [("at", 3)]) (g := gName 3) (tt := tYes) rfl sc_column_form.nd rfl rfl (sw_true rfl rfl rfl (by decide +kernel)) (pi_range2 rfl T.z_range (pa_cons pe_int (pa_cons (pe_callB call_len_seq rfl T.z_len PySem.boot_len (pa_cons (pv 1) pa_nil)) pa_nil))) (blkOk_by (own := [("at", 3)]) (N := n_column_form) (sc := defScope s_column_form) (by decide +kernel)) (fun _ _ _ _ _ => (pg_name (i := 3) sc_column_form.nd rfl (Or.inl rfl))) (fun _ _ _ _ _ => pts_nil) (fun _ _ _ _ _ => (pe_ifExp (pt_cmpR op_eq (pv 3) (pv 0) (nomark _)) pe_int pe_int)))
      (pss_one (ps_ret (pe_tup (pa_cons (pe_callTy call_tuple_of rfl T.z_tuple bt_tuple (pa_cons (pv 2) pa_nil)) (pa_cons pe_int (pa_cons pe_int pa_nil))))))), ?_⟩
  obtain ⟨bs, hbs, lbs, _⟩ := id hM
  have ln : ((bs.map V.ref).length) = n + 1 := by rw [List.length_map, lbs, sM.1]
  refine ⟨_, rfl, p, _, rfl, .inr hbs, _, _, rfl, ⟨by omega, by omega, by rw [ln]; omega, by rw [ln]; omega⟩, fun D hD => ?_⟩
  refine lc_it walk_range (LcP (Same H) (RInt (mkR n fun k => if k = i then 1 else 0)) D) (lcp_start hD) (fun _ _ _ _ => trivial) ?_ ?_
  · rintro j x F1 F2 hj P ⟨rfl, rfl⟩
    rw [ln] at hj
    have hj2 : j < n := by omega
    refine ⟨rfl, tyes ?_⟩
    refine ⟨_, rfl, _, rfl, rfl, _, rfl, ite2 (fun h => ?_) (fun h => ?_)⟩
    · have e : j = i := by
        have := V.int.inj (of_decide_eq_true h)
        omega
      exact lcp_same P hD (Same.refl _) (lt_line (by omega)) RInt.mono ⟨_, mkR_at hj2, by rw [if_pos e]⟩
    · have e : j ≠ i := fun z => h (decide_eq_true (congrArg V.int (by omega)))
      exact lcp_same P hD (Same.refl _) (lt_line (by omega)) RInt.mono ⟨_, mkR_at hj2, by rw [if_neg e]⟩
  · intro G P
    refine ⟨_, rfl, D, _, rfl, .inl ⟨SqL.of (lcp_ints (K := K) P (by rw [ln, mkR_len]; omega)), fun l hl => ⟨(by show 3 ≤ sizeLine; decide), fun q2 hq2 => ?_⟩⟩⟩
    have s2 := Same.new hq2 (.tup [.ref l, .int 0, .int 0])
    exact q q2 _ ((P.1.trans (Same.new hl _)).trans s2) ⟨l, SqT.of upd_same, SqT.of (s2 _ _ upd_same)⟩
theorem ok_sum_of_forms (T : Txt w K mg) : FnOk P w K mg base CX0 1 T.a_sum_of_forms T.d_sum_of_forms p_sum_of_forms (spSum K) := by
  refine T.F_sum_of_forms.ok sc_sum_of_forms (fun vs H Q E h => ?_) (fun cdv A outer s H vs Q E hr h => ?_)
  · obtain ⟨f, g, F, G, n, rfl, _⟩ := h
    rfl
  obtain ⟨f, g, F, G, n, rfl, hn, ⟨c, hf, hc⟩, ⟨d, hg, hd⟩, q⟩ := h
  refine ⟨_, (pss_cons (ps_setLc (i := 2) (own := [("a", 3), ("b", 4)]) (g := gTup K 2 (gCons (gName 3) (gCons (gName 4) gNil))) (tt := tYes) rfl sc_sum_of_forms.nd rfl rfl (sw_true rfl rfl rfl (by decide +kernel)) (ZG.pi_zipG (by rfl) T.z_zip (pa_cons (pe_ix ix_tup (pv 0) pe_int (fun _ _ => rfl)) (pa_cons (pe_ix ix_tup (pv 1) pe_int (fun _ _ => rfl)) pa_nil))) (blkOk_by (own := [("a", 3), ("b", 4)]) (N := n_sum_of_forms) (sc := defScope s_sum_of_forms) (by decide +kernel)) (fun _ _ _ _ _ => (pg_tup rfl (pgs_cons (pg_name (i := 3) sc_sum_of_forms.nd rfl (Or.inl rfl)) (pgs_cons (pg_name (i := 4) sc_sum_of_forms.nd rfl (Or.inl rfl)) pgs_nil)))) (fun _ _ _ _ _ => pts_nil) (fun _ _ _ _ _ => (pe_op op_add (pv 3) (pv 4))))
      (pss_one (ps_ret (pe_tup (pa_cons (pe_callTy call_tuple_of rfl T.z_tuple bt_tuple (pa_cons (pv 2) pa_nil)) (pa_cons (pe_op op_add (pe_ix ix_tup (pv 0) pe_int (fun _ _ => rfl)) (pe_ix ix_tup (pv 1) pe_int (fun _ _ => rfl))) (pa_cons (pe_op op_add (pe_ix ix_tup (pv 0) pe_int (fun _ _ => rfl)) (pe_ix ix_tup (pv 1) pe_int (fun _ _ => rfl))) pa_nil))))))), ?_⟩
  refine ⟨_, rfl, f, _, _, _, rfl, rfl, hf, rfl, _, rfl, g, _, _, _, rfl, rfl, hg, rfl, true, true, c, d, _, _, rfl, hc, hd, fun D hD => ?_⟩
  refine lc_it (walk_zipG (n := n) (by rw [List.length_map, List.length_map, mkR_len, mkR_len]; omega)) (LcP (Same H) (RInt (mkR n fun k => F.c k + G.c k)) D) (lcp_start hD) (fun i G _ P => ⟨Sq.same P.1 hc, Sq.same P.1 hd⟩) ?_ ?_
  · rintro j x F1 F2 hj P ⟨t, u, v, rfl, ht, rfl, eu, ev⟩
    have eu : ((mkR n F.c).map V.int)[j]? = some u := eu
    have ev : ((mkR n G.c).map V.int)[j]? = some v := ev
    rw [map_get (mkR_at hj)] at eu ev
    obtain rfl := Option.some.inj eu
    obtain rfl := Option.some.inj ev
    refine ⟨t, _, rfl, SqT.of upd_same, rfl, _, _, rfl, _, _, rfl, rfl, ?_⟩
    refine ⟨rfl, tyes ?_⟩
    refine ⟨_, rfl, _, rfl, _, _, rfl, rfl, ?_⟩
    exact lcp_same P hD (Same.new ht _) (lt_line (by omega)) RInt.mono ⟨_, mkR_at hj, rfl⟩
  · intro G1 P
    refine ⟨_, rfl, D, _, rfl, .inl ⟨SqL.of (lcp_ints (K := K) P (by rw [mkR_len])), fun l hl => ?_⟩⟩
    have sl := P.1.trans (Same.new hl (.tup ((mkR n fun k => F.c k + G.c k).map V.int)))
    refine ⟨_, rfl, f, _, _, _, rfl, rfl, Same.tup sl hf, rfl, _, rfl, g, _, _, _, rfl, rfl, Same.tup sl hg, rfl, _, _, rfl, rfl, ?_⟩
    refine ⟨_, rfl, f, _, _, _, rfl, rfl, Same.tup sl hf, rfl, _, rfl, g, _, _, _, rfl, rfl, Same.tup sl hg, rfl, _, _, rfl, rfl, (by show 3 ≤ sizeLine; decide), fun q2 hq2 => ?_⟩
    have s2 := Same.new hq2 (.tup [.ref l, .int (F.lo + G.lo), .int (F.hi + G.hi)])
    exact q q2 _ (sl.trans s2) ⟨l, SqT.of upd_same, SqT.of (s2 _ _ upd_same)⟩
theorem ok_form_times (T : Txt w K mg) : FnOk P w K mg base CX0 1 T.a_form_times T.d_form_times p_form_times (spTms K) := by
  refine T.F_form_times.ok sc_form_times (fun vs H Q E h => ?_) (fun cdv A outer s H vs Q E hr h => ?_)
  · obtain ⟨f, v, F, n, e1, e2, rfl, _⟩ := h
    rfl
  obtain ⟨f, v, F, n, e1, e2, rfl, hn, ⟨c, hf, hc⟩, fb, bv, h1, h2, q⟩ := h
  refine ⟨_, (pss_cons (ps_set (i := 2) sc_form_times.nd rfl (Or.inl rfl) (pe_callTy call_tuple_of rfl T.z_tuple bt_tuple (pa_cons (pe_lc (own := [("each", 3)]) (g := gName 3) (tt := tYes) rfl sc_form_times.nd (pi_tup (pe_ix ix_tup (pv 0) pe_int (fun _ _ => rfl))) (blkOk_by (own := [("each", 3)]) (N := n_form_times) (sc := defScope s_form_times) (by decide +kernel)) (fun _ _ _ _ _ => (pg_name (i := 3) sc_form_times.nd rfl (Or.inl rfl))) (fun _ _ _ _ _ => pts_nil) (fun _ _ _ _ _ => (pe_op op_mulW (pv 1) (pv 3)))) pa_nil)))
      (pss_cons (ps_set (i := 4) sc_form_times.nd rfl (Or.inl rfl) (pe_tup (pa_cons (pe_op op_mulW (pv 1) (pe_ix ix_tup (pv 0) pe_int (fun _ _ => rfl))) (pa_cons (pe_op op_mulW (pv 1) (pe_ix ix_tup (pv 0) pe_int (fun _ _ => rfl))) pa_nil))))
      (pss_one (ps_ret (pe_tup (pa_cons (pv 2) (pa_cons (pe_callB (MxT.call_minT rfl) rfl T.z_min bb_min (pa_cons (pv 4) pa_nil)) (pa_cons (pe_callB (MxT.call_maxT rfl) rfl T.z_max bb_max (pa_cons (pv 4) pa_nil)) pa_nil)))))))), ?_⟩
  refine ⟨_, rfl, f, _, _, _, rfl, rfl, hf, rfl, c, rfl, ⟨_, hc⟩, fun D hD => ?_⟩
  refine lc_it (walk_tup (xs := (mkR n F.c).map V.int)) (LcP (Same H) (RInt (mkR n fun k => v * F.c k)) D) (lcp_start hD) (fun i G _ P => Same.tup P.1 hc) ?_ ?_
  · rintro j x F' F2 hj P ⟨rfl, ex⟩
    rw [List.length_map, mkR_len] at hj
    rw [map_get (mkR_at hj)] at ex
    obtain rfl := Option.some.inj ex
    refine ⟨rfl, tyes ?_⟩
    refine ⟨_, rfl, _, rfl, _, _, rfl, rfl, mulW bv (fb.c j hj) h2 h1, ?_⟩
    exact lcp_same P hD (Same.refl _) (lt_line (by omega)) RInt.mono ⟨_, mkR_at hj, rfl⟩
  · intro F2 P
    refine ⟨D, _, rfl, .inl ⟨SqL.of (lcp_ints (K := K) P (by rw [List.length_map, mkR_len, mkR_len])), fun l hl => ?_⟩⟩
    have sl := P.1.trans (Same.new hl (.tup ((mkR n fun k => v * F.c k).map V.int)))
    refine ⟨_, rfl, _, rfl, f, _, _, _, rfl, rfl, Same.tup sl hf, rfl, _, _, rfl, rfl, mulW bv fb.l h2 h1, ?_⟩
    refine ⟨_, rfl, _, rfl, f, _, _, _, rfl, rfl, Same.tup sl hf, rfl, _, _, rfl, rfl, mulW bv fb.h h2 h1, (by show 2 ≤ sizeLine; decide), fun e he => ?_⟩
    have se := sl.trans (Same.new he (.tup [.int (v * F.lo), .int (v * F.hi)]))
    refine ⟨_, rfl, _, rfl, e, [v * F.lo, v * F.hi], rfl, SqT.of upd_same, by show 0 < 2; decide, fun m hm hx => ?_⟩
    refine ⟨_, rfl, e, [v * F.lo, v * F.hi], rfl, SqT.of upd_same, by show 0 < 2; decide, fun m2 hm2 hx2 => ⟨(by show 3 ≤ sizeLine; decide), fun r hr => ?_⟩⟩
    have x1 := hx (v * F.lo) (by simp)
    have x2 := hx (v * F.hi) (by simp)
    have y1 := hx2 (v * F.lo) (by simp)
    have y2 := hx2 (v * F.hi) (by simp)
    simp only [List.mem_cons, List.not_mem_nil, or_false] at hm hm2
    obtain rfl : m = min (v * F.lo) (v * F.hi) := by omega
    obtain rfl : m2 = max (v * F.lo) (v * F.hi) := by omega
    have s3 := (Same.new he (.tup [.int (v * F.lo), .int (v * F.hi)])).trans (Same.new hr (.tup [.ref l, .int (min (v * F.lo) (v * F.hi)), .int (max (v * F.lo) (v * F.hi))]))
    exact q r _ (sl.trans s3) ⟨l, SqT.of upd_same, SqT.of (s3 _ _ upd_same)⟩
theorem ok_difference_of_forms (T : Txt w K mg) : FnOk P w K mg base CX0 2 T.a_difference_of_forms T.d_difference_of_forms p_difference_of_forms (spDif K) := by
  have g_sum_of_forms := ok_sum_of_forms (P := P) (w := w) (K := K) (base := base) T
  have g_form_times := ok_form_times (P := P) (w := w) (K := K) (base := base) T
  refine T.F_difference_of_forms.ok sc_difference_of_forms (fun vs H Q E h => ?_) (fun cdv A outer s H vs Q E hr h => ?_)
  · obtain ⟨f, g, F, G, n, e, rfl, _⟩ := h
    rfl
  obtain ⟨f, g, F, G, n, e, rfl, hn, hf, hg, fb, he, q⟩ := h
  refine ⟨_, (pss_one (ps_ret (pe_call g_sum_of_forms (hr.mono (by first | decide | omega)) rfl T.m_sum_of_forms T.F_sum_of_forms.kp T.b_sum_of_forms .nil pass0 (pa_cons (pv 0) (pa_cons (pe_call g_form_times (hr.mono (by first | decide | omega)) rfl T.m_form_times T.F_form_times.kp T.b_form_times .nil pass0 (pa_cons (pv 1) (pa_cons (pe_un un_neg pe_int) pa_nil))) pa_nil))))), ?_⟩
  refine ⟨_, rfl, _, rfl, _, rfl, g, -1, G, n, e, 1, rfl, hn, hg, fb, by show (1 : Nat) < 2; decide, he, by decide, fun q1 H1 s1 h1 => ?_⟩
  exact ⟨f, q1, F, G.times (-1), n, rfl, hn, hf.same s1, h1, fun q2 H2 s2 h2 => q q2 H2 (s1.trans s2) h2⟩
end
/-! ### the grid (as in Law18e.inc) -/
def valsR (lo hi : Int) : List Int := (List.range (hi + 1 - lo).toNat).map fun (k : Nat) => lo + (k : Int)
def gstep (r : List Int) (Qs : List (List Int)) : List (List Int) := Qs.flatMap fun p => (valsR (r.getD 0 0) (r.getD 1 0)).map fun v => p ++ [v]
def gridL (Rs : List (List Int)) : List (List Int) := Rs.foldl (fun Qs r => gstep r Qs) [[]]
theorem gridL_app {Rs : List (List Int)} {r : List Int} : gridL (Rs ++ [r]) = gstep r (gridL Rs) := by
  unfold gridL
  rw [List.foldl_append]
  rfl
theorem mem_valsR {lo hi v : Int} : v ∈ valsR lo hi ↔ lo ≤ v ∧ v ≤ hi := by
  unfold valsR
  rw [List.mem_map]
  constructor
  · rintro ⟨k, hk, rfl⟩
    rw [List.mem_range] at hk
    omega
  · rintro ⟨h1, h2⟩
    exact ⟨(v - lo).toNat, List.mem_range.mpr (by omega), by omega⟩
theorem valsR_len {lo hi : Int} : (valsR lo hi).length = (hi + 1 - lo).toNat := by simp [valsR]
theorem valsR_get {lo hi : Int} {k : Nat} (h : k < (hi + 1 - lo).toNat) : (valsR lo hi)[k]? = some (lo + (k : Int)) := map_get (range_at h)
def InR (Rs : List (List Int)) (p : List Int) : Prop := p.length = Rs.length ∧ ∀ k < Rs.length, (Rs.getD k []).getD 0 0 ≤ p.getD k 0 ∧ p.getD k 0 ≤ (Rs.getD k []).getD 1 0
theorem getD_app1 {α : Type} {xs ys : List α} {k : Nat} {d : α} (h : k < xs.length) : (xs ++ ys).getD k d = xs.getD k d := by
  rw [List.getD_eq_getElem?_getD, List.getElem?_append_left h, ← List.getD_eq_getElem?_getD]
theorem getD_app2 {α : Type} {xs : List α} {y d : α} : (xs ++ [y]).getD xs.length d = y := by
  rw [List.getD_eq_getElem?_getD, List.getElem?_append_right (Nat.le_refl _), Nat.sub_self]
  rfl
theorem take_snoc {α : Type} {xs : List α} {i : Nat} {x : α} (e : xs[i]? = some x) : xs.take (i + 1) = xs.take i ++ [x] := by rw [List.take_succ, e]; rfl
theorem mem_grid {Rs : List (List Int)} : ∀ {i : Nat}, i ≤ Rs.length → ∀ p, p ∈ gridL (Rs.take i) ↔ InR (Rs.take i) p
  | 0, _, p => by
    rw [List.take_zero]
    unfold InR
    show p ∈ [[]] ↔ _
    rw [List.mem_singleton]
    constructor
    · rintro rfl
      exact ⟨rfl, fun k h => by simp at h⟩
    · rintro ⟨h, _⟩
      exact List.length_eq_zero_iff.mp h
  | i + 1, hi, p => by
    have e : Rs[i]? = some (Rs[i]'(by omega)) := List.getElem?_eq_getElem _
    rw [take_snoc e, gridL_app]
    generalize Rs[i]'(by omega) = r
    have li : (Rs.take i).length = i := by rw [List.length_take]; omega
    unfold gstep
    rw [List.mem_flatMap]
    constructor
    · rintro ⟨q, hq, hp⟩
      obtain ⟨v, hv, rfl⟩ := List.mem_map.mp hp
      obtain ⟨lq, iq⟩ := (mem_grid (by omega) q).mp hq
      have hv' := mem_valsR.mp hv
      refine ⟨by simp [lq], fun k hk => ?_⟩
      rw [List.length_append, li] at hk
      by_cases h : k < i
      · rw [getD_app1 (by omega), getD_app1 (by omega)]
        exact iq k (by omega)
      · have ek : k = i := by simp at hk; omega
        subst ek
        have e1 : (List.take k Rs ++ [r]).getD k [] = r := by
          have := getD_app2 (xs := Rs.take k) (y := r) (d := [])
          rwa [li] at this
        have e2 : (q ++ [v]).getD k 0 = v := by
          have := getD_app2 (xs := q) (y := v) (d := (0 : Int))
          rwa [lq, li] at this
        rw [e1, e2]
        exact hv'
    · rintro ⟨lp, ip⟩
      rw [List.length_append, li] at lp ip
      have ne : p ≠ [] := fun z => by rw [z] at lp; simp at lp
      obtain ⟨q, v, rfl⟩ : ∃ q v, p = q ++ [v] := ⟨p.dropLast, p.getLast ne, (List.dropLast_concat_getLast ne).symm⟩
      have lq : q.length = i := by simpa using lp
      refine ⟨q, (mem_grid (by omega) q).mpr ⟨by rw [lq, li], fun k hk => ?_⟩, List.mem_map.mpr ⟨v, mem_valsR.mpr ?_, rfl⟩⟩
      · rw [li] at hk
        have := ip k (by simp; omega)
        rwa [getD_app1 (by omega), getD_app1 (by omega)] at this
      · have := ip i (by simp)
        have e1 : (List.take i Rs ++ [r]).getD i [] = r := by
          have := getD_app2 (xs := Rs.take i) (y := r) (d := [])
          rwa [li] at this
        have e2 : (q ++ [v]).getD i 0 = v := by
          have := getD_app2 (xs := q) (y := v) (d := (0 : Int))
          rwa [lq] at this
        rw [e1, e2] at this
        exact this
theorem gstep_len {r : List Int} {m : Nat} (h : (valsR (r.getD 0 0) (r.getD 1 0)).length ≤ m) : ∀ Qs : List (List Int), (gstep r Qs).length ≤ Qs.length * m := by
  intro Qs
  unfold gstep
  induction Qs with
  | nil => simp
  | cons q Qs ih =>
    rw [List.flatMap_cons, List.length_append, List.length_cons, Nat.add_mul, List.length_map]
    omega
/-! ### spans of fewer points -/
theorem tmin_le {n k : Nat} {c : Int} {Ps : List (List Int)} {r : List Int} (hr : r ∈ Ps) (hk : k < n) : tmin (hullM n Ps) c k ≤ c * r.getD k 0 ∧ ∃ s ∈ Ps, tmin (hullM n Ps) c k = c * s.getD k 0 := by
  have ne : Ps ≠ [] := List.ne_nil_of_mem hr
  obtain ⟨r1, hr1, e1⟩ := hull_at (n := n) (Ps := Ps) ne (show 0 < n + 1 by omega) (show k + 1 < n + 1 by omega)
  obtain ⟨r2, hr2, e2⟩ := hull_at (n := n) (Ps := Ps) ne (show k + 1 < n + 1 by omega) (show 0 < n + 1 by omega)
  have e1' : 0 - r1.getD k 0 = getM (hullM n Ps) 0 (k + 1) := e1
  have e2' : r2.getD k 0 - 0 = getM (hullM n Ps) (k + 1) 0 := e2
  have d1 : dif 0 (k + 1) r ≤ getM (hullM n Ps) 0 (k + 1) := hull_le (by omega) (by omega) hr
  have d2 : dif (k + 1) 0 r ≤ getM (hullM n Ps) (k + 1) 0 := hull_le (by omega) (by omega) hr
  have d1' : 0 - r.getD k 0 ≤ getM (hullM n Ps) 0 (k + 1) := d1
  have d2' : r.getD k 0 - 0 ≤ getM (hullM n Ps) (k + 1) 0 := d2
  unfold tmin
  rw [show -(getM (hullM n Ps) 0 (k + 1)) = r1.getD k 0 by omega, show getM (hullM n Ps) (k + 1) 0 = r2.getD k 0 by omega]
  refine ⟨?_, ?_⟩
  · by_cases c0 : 0 ≤ c
    · have := Int.mul_le_mul_of_nonneg_left (show r1.getD k 0 ≤ r.getD k 0 by omega) c0
      omega
    · have := Int.mul_le_mul_of_nonpos_left (show c ≤ 0 by omega) (show r.getD k 0 ≤ r2.getD k 0 by omega)
      omega
  · by_cases h : c * r1.getD k 0 ≤ c * r2.getD k 0
    · exact ⟨r1, hr1, by omega⟩
    · exact ⟨r2, hr2, by omega⟩
theorem sum_le {f g : Nat → Int} : ∀ xs : List Nat, (∀ k ∈ xs, f k ≤ g k) → (xs.map f).sum ≤ (xs.map g).sum
  | [], _ => Int.le_refl _
  | x :: xs, h => by
    have h1 := h x List.mem_cons_self
    have h2 := sum_le xs fun k hk => h k (List.mem_cons_of_mem _ hk)
    rw [List.map_cons, List.map_cons, List.sum_cons, List.sum_cons]
    omega
theorem span_val {cs : List Int} {lo : Int} {Ps : List (List Int)} {r : List Int} (hr : r ∈ Ps) : spanLo (hullM cs.length Ps) cs lo ≤ val cs r + lo := by
  unfold spanLo
  rw [val_used]
  have := sum_le (f := fun k => tmin (hullM cs.length Ps) (cs.getD k 0) k) (g := fun k => cs.getD k 0 * r.getD k 0) (usedZ cs) fun k hk => (tmin_le hr (mem_usedZ.mp hk).1).1
  omega
theorem span_mono {cs : List Int} {lo : Int} {Ps Qs : List (List Int)} {q : List Int} (hq : q ∈ Qs) (sub : ∀ r ∈ Qs, r ∈ Ps) : spanLo (hullM cs.length Ps) cs lo ≤ spanLo (hullM cs.length Qs) cs lo := by
  unfold spanLo
  have := sum_le (f := fun k => tmin (hullM cs.length Ps) (cs.getD k 0) k) (g := fun k => tmin (hullM cs.length Qs) (cs.getD k 0) k) (usedZ cs) fun k hk => by
    obtain ⟨s, hs, e⟩ := (tmin_le (c := cs.getD k 0) hq (mem_usedZ.mp hk).1).2
    show _ ≤ tmin (hullM cs.length Qs) (cs.getD k 0) k
    rw [e]
    exact (tmin_le (sub s hs) (mem_usedZ.mp hk).1).1
  omega
/-! ### ends of fewer points (as in Asg25b.inc) -/
theorem tmax_ge {n k : Nat} {c : Int} {Ps : List (List Int)} {r : List Int} (hr : r ∈ Ps) (hk : k < n) : c * r.getD k 0 ≤ tmax (hullM n Ps) c k ∧ ∃ s ∈ Ps, tmax (hullM n Ps) c k = c * s.getD k 0 := by
  have ne : Ps ≠ [] := List.ne_nil_of_mem hr
  obtain ⟨r1, hr1, e1⟩ := hull_at (n := n) (Ps := Ps) ne (show 0 < n + 1 by omega) (show k + 1 < n + 1 by omega)
  obtain ⟨r2, hr2, e2⟩ := hull_at (n := n) (Ps := Ps) ne (show k + 1 < n + 1 by omega) (show 0 < n + 1 by omega)
  have e1' : 0 - r1.getD k 0 = getM (hullM n Ps) 0 (k + 1) := e1
  have e2' : r2.getD k 0 - 0 = getM (hullM n Ps) (k + 1) 0 := e2
  have d1 : dif 0 (k + 1) r ≤ getM (hullM n Ps) 0 (k + 1) := hull_le (by omega) (by omega) hr
  have d2 : dif (k + 1) 0 r ≤ getM (hullM n Ps) (k + 1) 0 := hull_le (by omega) (by omega) hr
  have d1' : 0 - r.getD k 0 ≤ getM (hullM n Ps) 0 (k + 1) := d1
  have d2' : r.getD k 0 - 0 ≤ getM (hullM n Ps) (k + 1) 0 := d2
  unfold tmax
  rw [show -(getM (hullM n Ps) 0 (k + 1)) = r1.getD k 0 by omega, show getM (hullM n Ps) (k + 1) 0 = r2.getD k 0 by omega]
  refine ⟨?_, ?_⟩
  · by_cases c0 : 0 ≤ c
    · have := Int.mul_le_mul_of_nonneg_left (show r.getD k 0 ≤ r2.getD k 0 by omega) c0
      omega
    · have := Int.mul_le_mul_of_nonpos_left (show c ≤ 0 by omega) (show r1.getD k 0 ≤ r.getD k 0 by omega)
      omega
  · by_cases h : c * r1.getD k 0 ≤ c * r2.getD k 0
    · exact ⟨r2, hr2, by omega⟩
    · exact ⟨r1, hr1, by omega⟩
theorem spanH_val {cs : List Int} {hi : Int} {Ps : List (List Int)} {r : List Int} (hr : r ∈ Ps) : val cs r + hi ≤ spanHi (hullM cs.length Ps) cs hi := by
  unfold spanHi
  rw [val_used]
  have := sum_le (f := fun k => cs.getD k 0 * r.getD k 0) (g := fun k => tmax (hullM cs.length Ps) (cs.getD k 0) k) (usedZ cs) fun k hk => (tmax_ge hr (mem_usedZ.mp hk).1).1
  omega
theorem spanH_mono {cs : List Int} {hi : Int} {Ps Qs : List (List Int)} {q : List Int} (hq : q ∈ Qs) (sub : ∀ r ∈ Qs, r ∈ Ps) : spanHi (hullM cs.length Qs) cs hi ≤ spanHi (hullM cs.length Ps) cs hi := by
  unfold spanHi
  have := sum_le (f := fun k => tmax (hullM cs.length Qs) (cs.getD k 0) k) (g := fun k => tmax (hullM cs.length Ps) (cs.getD k 0) k) (usedZ cs) fun k hk => by
    obtain ⟨s, hs, e⟩ := (tmax_ge (c := cs.getD k 0) hq (mem_usedZ.mp hk).1).2
    show tmax (hullM cs.length Qs) (cs.getD k 0) k ≤ _
    rw [e]
    exact (tmax_ge (sub s hs) (mem_usedZ.mp hk).1).1
  omega
theorem minV_le {cs : List Int} {Ps : List (List Int)} {r : List Int} (hr : r ∈ Ps) : minV cs Ps ≤ val cs r ∧ ∃ s ∈ Ps, minV cs Ps = val cs s := by
  unfold minV
  have h1 := lmax_le (List.mem_map_of_mem (f := fun p => -(val cs p)) hr)
  have h2 := lmax_mem (xs := Ps.map fun p => -(val cs p)) (fun z => by rw [List.map_eq_nil_iff] at z; rw [z] at hr; simp at hr)
  obtain ⟨s, hs, e⟩ := List.mem_map.mp h2
  exact ⟨by omega, s, hs, by omega⟩
theorem maxV_ge {cs : List Int} {Ps : List (List Int)} {r : List Int} (hr : r ∈ Ps) : val cs r ≤ maxV cs Ps ∧ ∃ s ∈ Ps, maxV cs Ps = val cs s := by
  unfold maxV
  have h1 := lmax_le (List.mem_map_of_mem (f := fun p => val cs p) hr)
  have h2 := lmax_mem (xs := Ps.map fun p => val cs p) (fun z => by rw [List.map_eq_nil_iff] at z; rw [z] at hr; simp at hr)
  obtain ⟨s, hs, e⟩ := List.mem_map.mp h2
  exact ⟨h1, s, hs, e.symm⟩
theorem low_le {cs : List Int} {flo : Int} {Ps : List (List Int)} {r : List Int} (hr : r ∈ Ps) : lowF cs flo Ps ≤ val cs r + flo := by
  unfold lowF
  split
  · have := (minV_le (cs := cs) hr).1
    omega
  · exact span_val hr
theorem high_ge {cs : List Int} {fhi : Int} {Ps : List (List Int)} {r : List Int} (hr : r ∈ Ps) : val cs r + fhi ≤ highF cs fhi Ps := by
  unfold highF
  split
  · have := (maxV_ge (cs := cs) hr).1
    omega
  · exact spanH_val hr
theorem low_mono {cs : List Int} {flo : Int} {Ps Qs : List (List Int)} {q : List Int} (hq : q ∈ Qs) (sub : ∀ r ∈ Qs, r ∈ Ps) : lowF cs flo Ps ≤ lowF cs flo Qs := by
  unfold lowF
  split
  · obtain ⟨s, hs, e⟩ := (minV_le (cs := cs) hq).2
    have := (minV_le (cs := cs) (sub s hs)).1
    omega
  · exact span_mono hq sub
theorem high_mono {cs : List Int} {fhi : Int} {Ps Qs : List (List Int)} {q : List Int} (hq : q ∈ Qs) (sub : ∀ r ∈ Qs, r ∈ Ps) : highF cs fhi Qs ≤ highF cs fhi Ps := by
  unfold highF
  split
  · obtain ⟨s, hs, e⟩ := (maxV_ge (cs := cs) hq).2
    have := (maxV_ge (cs := cs) (sub s hs)).1
    omega
  · exact spanH_mono hq sub
/-! ### ranges of forms over boxes of bounded entries -/
def EntB (M : List (List Int)) : Prop := ∀ i j, -1000000000000 ≤ getM M i j ∧ getM M i j ≤ 1000000000000
theorem entC {M : List (List Int)} {c z : Int} {k j : Nat} (h : EntB M) (e : [-(getM M 0 (k + 1)), getM M (k + 1) 0][j]? = some z) : CMul c z := by
  have h1 := h 0 (k + 1)
  have h2 := h (k + 1) 0
  match j, e with
  | 0, e =>
    cases e
    exact .inr ⟨by omega, by omega⟩
  | 1, e =>
    cases e
    exact .inr ⟨by omega, by omega⟩
  | j + 2, e => simp at e
def spFormR (K : PySem.W.Frag) : Sp := fun vs H Q _ => ∃ (f p : Addr) (M : List (List Int)) (cs : List Int) (lo hi : Int), vs = [.ref f, .ref p] ∧ FormAt K H f cs lo hi ∧ EntB M ∧ cs.length ≤ 60 ∧ Mx true true K H p M ∧ Sz (cs.length + 1) M ∧
  ∀ t H' L G, Same H H' → H' t = some (.tup [.int L, .int G]) → RngF M cs lo hi L G → Q (.ref t) H'
section
variable {P : Program} {w : World} {K : PySem.W.Frag} {mg : Str → Option Value} {base : Heap}
theorem ok_range_of_form (T : Txt w K mg) : FnOk P w K mg base CX0 3 T.a_range_of_form T.d_range_of_form p_range_of_form (spFormR K) := by
  have g_used_columns := ok_used_columns (P := P) (w := w) (K := K) (base := base) T
  have g_difference_columns := ok_difference_columns (P := P) (w := w) (K := K) (base := base) T
  have g_range_of := ok_range_of (P := P) (w := w) (K := K) (base := base) T
  refine T.F_range_of_form.ok sc_range_of_form (fun vs H Q E h => ?_) (fun cdv A outer s H vs Q E hr h => ?_)
  · obtain ⟨f, p, M, cs, lo, hi, rfl, _⟩ := h
    rfl
  obtain ⟨f, p, M, cs, lo, hi, rfl, hF, eb, lc, hM, sM, q⟩ := h
  refine ⟨_, (pss_cons (ps_asg (pv 0) (pg_tup rfl (pgs_cons (pg_name (i := 2) sc_range_of_form.nd rfl (Or.inr rfl)) (pgs_cons (pg_name (i := 3) sc_range_of_form.nd rfl (Or.inl rfl)) (pgs_cons (pg_name (i := 4) sc_range_of_form.nd rfl (Or.inl rfl)) pgs_nil)))))
      (pss_cons (ps_set (i := 5) sc_range_of_form.nd rfl (Or.inl rfl) (pe_call g_difference_columns (hr.mono (by first | decide | omega)) rfl T.m_difference_columns T.F_difference_columns.kp T.b_difference_columns .nil pass0 (pa_cons (pv 0) pa_nil)))
      (pss_cons (ps_if (pt_cmpR op_notN (pv 5) pe_non (nomark _)) (pss_cons (ps_asg (pv 5) (pg_tup rfl (pgs_cons (pg_name (i := 6) sc_range_of_form.nd rfl (Or.inl rfl)) (pgs_cons (pg_name (i := 7) sc_range_of_form.nd rfl (Or.inl rfl)) pgs_nil))))
      (pss_one (ps_ret (pe_tup (pa_cons (pe_op op_sub (pv 3) (pe_ix ix_tup (pe_ix ix_tup (pv 1) (pv 7) (fun _ _ => rfl)) (pv 6) (fun _ _ => rfl))) (pa_cons (pe_op op_add (pv 4) (pe_ix ix_tup (pe_ix ix_tup (pv 1) (pv 6) (fun _ _ => rfl)) (pv 7) (fun _ _ => rfl))) pa_nil)))))) pss_nil)
      (pss_cons (ps_for PassesOwn.never rfl (pi_list (pe_call g_used_columns (hr.mono (by first | decide | omega)) rfl T.m_used_columns T.F_used_columns.kp T.b_used_columns .nil pass0 (pa_cons (pv 0) pa_nil))) (pg_name (i := 8) sc_range_of_form.nd rfl (Or.inr rfl))
        (pss_cons (ps_setLc (i := 9) (own := [("end", 10)]) (g := gName 10) (tt := tYes) rfl sc_range_of_form.nd rfl rfl (sw_true rfl rfl rfl (by decide +kernel)) (pi_tup (pe_call g_range_of (hr.mono (by first | decide | omega)) rfl T.m_range_of T.F_range_of.kp T.b_range_of .nil pass0 (pa_cons (pv 1) (pa_cons (pv 8) pa_nil)))) (blkOk_by (own := [("end", 10)]) (N := n_range_of_form) (sc := defScope s_range_of_form) (by decide +kernel)) (fun _ _ _ _ _ => (pg_name (i := 10) sc_range_of_form.nd rfl (Or.inl rfl))) (fun _ _ _ _ _ => pts_nil) (fun _ _ _ _ _ => (pe_op op_mul (pe_ix (show IxR _ (rIxT K) from ix_tup) (pv 2) (pe_op op_sub (pv 8) pe_int) (fun _ _ => rfl)) (pv 10))))
      (pss_cons (ps_set (i := 3) sc_range_of_form.nd rfl (Or.inl rfl) (pe_op op_add (pv 3) (pe_callB (cr_min rfl) rfl T.z_min bb_min (pa_cons (pv 9) pa_nil))))
      (pss_one (ps_set (i := 4) sc_range_of_form.nd rfl (Or.inl rfl) (pe_op op_add (pv 4) (pe_callB (cr_max rfl) rfl T.z_max bb_max (pa_cons (pv 9) pa_nil))))))))
      (pss_one (ps_ret (pe_tup (pa_cons (pv 3) (pa_cons (pv 4) pa_nil))))))))), ?_⟩
  obtain ⟨c, hf, hc⟩ := id hF
  refine ⟨_, rfl, f, _, rfl, hf, rfl, _, _, rfl, _, _, rfl, _, _, rfl, rfl, ?_⟩
  refine ⟨_, rfl, f, cs, lo, hi, rfl, hF, by omega, fun G s0 nd => ?_, fun t G i j s0 d dij ht => ?_⟩
  · refine ⟨_, rfl, rfl, _, rfl, ifF (by decide) ?_⟩
    refine ⟨_, rfl, f, cs, lo, hi, rfl, hF.same s0, by omega, fun u H2 s2 hu => ⟨u, rfl, ⟨_, SqL.of hu⟩, ?_⟩⟩
    have s02 := s0.trans s2
    refine for_it (walk_list (xs := natsV (usedN cs))) (fun i σ F => (∃ x8 x9 x10 : Option V, σ = [some (.ref f), some (.ref p), some (.ref c), some (.int (lo + (((usedZ cs).take i).map fun k => tmin M (cs.getD k 0) k).sum)), some (.int (hi + (((usedZ cs).take i).map fun k => tmax M (cs.getD k 0) k).sum)), some .non, none, none, x8, x9, x10]) ∧ Same H2 F)
      ⟨⟨none, none, none, by rw [List.take_zero]; show _ = [_, _, _, some (V.int (lo + 0)), some (V.int (hi + 0)), _, _, _, _, _, _]; rw [Int.add_zero, Int.add_zero]; rfl⟩, Same.refl _⟩ (fun j σ F _ P => SqL.of (P.2 _ _ hu)) ?_ ?_
    · rintro i x σ F0 F hi2 ⟨⟨x8, x9, x10, rfl⟩, sF⟩ ⟨rfl, ex⟩
      rw [natsU_len] at hi2
      have ek : (usedZ cs)[i]? = some (usedZ cs)[i] := List.getElem?_eq_getElem hi2
      have mk := mem_usedZ.mp (List.getElem_mem hi2)
      generalize (usedZ cs)[i] = k at ek mk
      rw [natsU_get ek] at ex
      obtain rfl := Option.some.inj ex
      have sF2 := s02.trans sF
      refine ⟨_, rfl, _, rfl, p, M, cs.length, k + 1, rfl, by omega, hM.same sF2, sM, by omega, fun t H3 s3 ht => ⟨t, rfl, ⟨_, ht⟩, fun D hD => ?_⟩⟩
      have sF3 := sF2.trans s3
      refine lc_it (walk_tup (xs := [-(getM M 0 (k + 1)), getM M (k + 1) 0].map V.int)) (LcP (Same H3) (RInt ([-(getM M 0 (k + 1)), getM M (k + 1) 0].map fun y => cs.getD k 0 * y)) D) (lcp_start hD) (fun j F4 _ P => Same.tup P.1 ht) ?_ ?_
      · rintro j y F4 F5 hj P ⟨rfl, ey⟩
        obtain ⟨z, ez, rfl⟩ := get_int ey
        refine ⟨rfl, tyes ?_⟩
        refine ⟨_, rfl, _, rfl, _, _, rfl, rfl, c, _, _, _, rfl, rfl, Same.tup (sF3.trans P.1) hc, coef_at mk.1, _, rfl, _, _, rfl, rfl, entC eb ez, ?_⟩
        exact lcp_same P hD (Same.refl _) (lt_line (by have : j < 2 := hj; omega)) RInt.mono ⟨_, map_get ez, rfl⟩
      · intro F4 P
        have ei := lcp_ints (K := K) P rfl
        refine ⟨_, rfl, _, rfl, D, _, rfl, SqL.of ei, by show 0 < 2; decide, fun m hm hx => ⟨_, _, rfl, rfl, ?_⟩⟩
        refine ⟨_, rfl, _, rfl, D, _, rfl, SqL.of ei, by show 0 < 2; decide, fun m2 hm2 hx2 => ⟨_, _, rfl, rfl, ?_⟩⟩
        have em : m = tmin M (cs.getD k 0) k := by
          have x1 := hx (cs.getD k 0 * -(getM M 0 (k + 1))) (by simp)
          have x2 := hx (cs.getD k 0 * getM M (k + 1) 0) (by simp)
          simp only [List.map_cons, List.map_nil, List.mem_cons, List.not_mem_nil, or_false] at hm
          unfold tmin
          omega
        have em2 : m2 = tmax M (cs.getD k 0) k := by
          have x1 := hx2 (cs.getD k 0 * -(getM M 0 (k + 1))) (by simp)
          have x2 := hx2 (cs.getD k 0 * getM M (k + 1) 0) (by simp)
          simp only [List.map_cons, List.map_nil, List.mem_cons, List.not_mem_nil, or_false] at hm2
          unfold tmax
          omega
        have eL : lo + (((usedZ cs).take (i + 1)).map fun k => tmin M (cs.getD k 0) k).sum = lo + (((usedZ cs).take i).map fun k => tmin M (cs.getD k 0) k).sum + m := by
          rw [take_snoc ek, List.map_append, List.sum_append, em]
          show lo + (_ + (tmin M (cs.getD k 0) k + 0)) = _
          omega
        have eG : hi + (((usedZ cs).take (i + 1)).map fun k => tmax M (cs.getD k 0) k).sum = hi + (((usedZ cs).take i).map fun k => tmax M (cs.getD k 0) k).sum + m2 := by
          rw [take_snoc ek, List.map_append, List.sum_append, em2]
          show hi + (_ + (tmax M (cs.getD k 0) k + 0)) = _
          omega
        rw [eL, eG]
        exact ⟨⟨_, _, _, rfl⟩, (sF.trans s3).trans P.1⟩
    · rintro σ F ⟨⟨x8, x9, x10, rfl⟩, sF⟩
      rw [natsU_len, List.take_length]
      refine ⟨_, rfl, _, rfl, (by show 2 ≤ sizeLine; decide), fun t ht => ?_⟩
      exact q t _ _ _ ((s02.trans sF).trans (Same.new ht _)) upd_same (.inl ⟨nd, rfl, rfl⟩)
  · refine ⟨_, rfl, rfl, _, rfl, ifT (by rw [decide_eq_false (fun z => by cases z)]; rfl) ?_⟩
    refine ⟨_, rfl, t, _, rfl, SqT.of ht, rfl, _, _, rfl, _, _, rfl, rfl, ?_⟩
    obtain ⟨h1, h2, h3, h4, hv⟩ := id dij
    have hM1 := hM.same s0
    obtain ⟨vs1, a1, r1, x1, x2, x3, x4⟩ := hM1.get3 sM (i := j) (j := i) (by omega) (by omega)
    obtain ⟨vs2, a2, r2, y1, y2, y3, y4⟩ := hM1.get3 sM (i := i) (j := j) (by omega) (by omega)
    refine ⟨_, rfl, _, rfl, _, rfl, p, _, _, _, rfl, rfl, x1, x2, _, rfl, a1, _, _, _, rfl, rfl, x3, x4, _, _, rfl, rfl, ?_⟩
    refine ⟨_, rfl, _, rfl, _, rfl, p, _, _, _, rfl, rfl, y1, y2, _, rfl, a2, _, _, _, rfl, rfl, y3, y4, _, _, rfl, rfl, (by show 2 ≤ sizeLine; decide), fun t2 ht2 => ?_⟩
    exact q t2 _ _ _ (s0.trans (Same.new ht2 _)) upd_same (.inr ⟨i, j, d, dij, rfl, rfl⟩)
end
/-! ### how great the numbers of a form get -/
def PtB (Ps : List (List Int)) : Prop := ∀ r ∈ Ps, ∀ k, -400000000000 ≤ r.getD k 0 ∧ r.getD k 0 ≤ 400000000000
theorem Bd.mono {a b : Nat} {x : Int} (h : Bd a x) (l : a ≤ b) : Bd b x := Nat.lt_of_lt_of_le h (Nat.pow_le_pow_right (by decide) l)
theorem bd_mul {a b : Nat} {x y : Int} (hx : Bd a x) (hy : Bd b y) : Bd (a + b) (x * y) := by
  unfold Bd
  rw [Int.natAbs_mul, Nat.pow_add]
  exact Nat.mul_lt_mul_of_lt_of_lt hx hy
theorem bd_add {a : Nat} {x y : Int} (hx : Bd a x) (hy : Bd a y) : Bd (a + 1) (x + y) ∧ Bd (a + 1) (x - y) := by
  have e1 := Int.natAbs_add_le x y
  have e2 := Int.natAbs_sub_le x y
  unfold Bd at *
  rw [Nat.pow_succ]
  omega
theorem bd_neg {a : Nat} {x : Int} (hx : Bd a x) : Bd a (-x) := by
  unfold Bd at *
  rw [Int.natAbs_neg]
  exact hx
theorem bd_min {a : Nat} {x y : Int} (hx : Bd a x) (hy : Bd a y) : Bd a (min x y) ∧ Bd a (max x y) := by
  by_cases h : x ≤ y
  · rw [Int.min_eq_left h, Int.max_eq_right h]
    exact ⟨hx, hy⟩
  · rw [Int.min_eq_right (by omega), Int.max_eq_left (by omega)]
    exact ⟨hy, hx⟩
theorem bd_small {x : Int} (h : -1000000000000 ≤ x ∧ x ≤ 1000000000000) : Bd 40 x := by
  unfold Bd
  rw [show (2 : Nat) ^ 40 = 1099511627776 by decide]
  omega
theorem sum_abs {f : Nat → Int} {B : Nat} : ∀ xs : List Nat, (∀ k ∈ xs, (f k).natAbs ≤ B) → ((xs.map f).sum).natAbs ≤ xs.length * B
  | [], _ => by simp
  | x :: xs, h => by
    have h1 := h x List.mem_cons_self
    have h2 := sum_abs xs fun k hk => h k (List.mem_cons_of_mem _ hk)
    rw [List.map_cons, List.sum_cons, List.length_cons, Nat.succ_mul]
    have := Int.natAbs_add_le (f x) ((xs.map f).sum)
    omega
theorem bd_sum {e n : Nat} {v : Int} {f : Nat → Int} {xs : List Nat} (hv : Bd e v) (l : xs.length ≤ n) (hn : n ≤ 60) (h : ∀ k ∈ xs, Bd (e + 40) (f k)) : Bd (e + 47) (v + (xs.map f).sum) := by
  have h1 := sum_abs (B := 2 ^ (e + 40)) xs fun k hk => Nat.le_of_lt (h k hk)
  have h2 := Int.natAbs_add_le v ((xs.map f).sum)
  have h3 : xs.length * 2 ^ (e + 40) ≤ 60 * 2 ^ (e + 40) := Nat.mul_le_mul_right _ (by omega)
  have e1 : (2 : Nat) ^ (e + 47) = 128 * 2 ^ (e + 40) := by
    rw [show e + 47 = (e + 40) + 7 by omega, Nat.pow_add _ (e + 40) 7, Nat.mul_comm]
  have e2 : (2 : Nat) ^ e ≤ 2 ^ (e + 40) := Nat.pow_le_pow_right (by decide) (by omega)
  unfold Bd at *
  rw [e1]
  omega
theorem entB_hull {n : Nat} {Ps : List (List Int)} (ne : Ps ≠ []) (hp : PtB Ps) : EntB (hullM n Ps) := fun i j => by
  have out : ∀ {M : List (List Int)}, Sz (n + 1) M → ¬ (i < n + 1 ∧ j < n + 1) → getM M i j = 0 := fun {M} z h => by
    unfold getM
    by_cases hi : i < n + 1
    · obtain ⟨r, er, lr⟩ := z.at hi
      have e0 : M.getD i [] = r := by rw [List.getD_eq_getElem?_getD, er]; rfl
      rw [e0, List.getD_eq_getElem?_getD, List.getElem?_eq_none (by omega)]
      rfl
    · have e0 : M.getD i [] = [] := by
        rw [List.getD_eq_getElem?_getD, List.getElem?_eq_none (by rw [z.1]; omega)]
        rfl
      rw [e0]
      rfl
  by_cases h : i < n + 1 ∧ j < n + 1
  · obtain ⟨r, hr, e⟩ := hull_at (n := n) ne h.1 h.2
    have b : ∀ a, -400000000000 ≤ (0 :: r).getD a 0 ∧ (0 :: r).getD a 0 ≤ 400000000000 := fun a => by
      cases a with
      | zero =>
        show -400000000000 ≤ (0 : Int) ∧ (0 : Int) ≤ 400000000000
        decide
      | succ k => exact hp r hr k
    have b1 := b i
    have b2 := b j
    rw [← e]
    unfold dif
    omega
  · rw [out (hullM_sz n Ps) h]
    decide
theorem mkR_getD {n k : Nat} {f : Nat → Int} (hk : k < n) : (mkR n f).getD k 0 = f k := by
  rw [List.getD_eq_getElem?_getD, mkR_at hk]
  rfl
theorem bd_val {e n : Nat} {F : Fm} {p : List Int} {v : Int} (fb : FmB e n F) (hv : Bd e v) (hn : n ≤ 60) (hp : ∀ k, -400000000000 ≤ p.getD k 0 ∧ p.getD k 0 ≤ 400000000000) : Bd (e + 47) (v + val (mkR n F.c) p) := by
  unfold val
  refine bd_sum (n := n) hv (by rw [List.length_range, mkR_len]; exact Nat.le_refl _) hn fun k hk => ?_
  rw [List.mem_range, mkR_len] at hk
  rw [mkR_getD hk]
  have := hp k
  exact bd_mul (fb.c k hk) (bd_small (by omega))
theorem low_bd {e n : Nat} {F : Fm} {Ps : List (List Int)} (ne : Ps ≠ []) (hp : PtB Ps) (hn : n ≤ 60) (fb : FmB e n F) : Bd (e + 47) (F.low n Ps) ∧ Bd (e + 47) (F.high n Ps) := by
  have eb := entB_hull (n := n) ne hp
  have ln : (mkR n F.c).length = n := mkR_len
  obtain ⟨r, hr⟩ := List.exists_mem_of_ne_nil _ ne
  have tb : ∀ k ∈ usedZ (mkR n F.c), Bd (e + 40) (tmin (hullM (mkR n F.c).length Ps) ((mkR n F.c).getD k 0) k) ∧ Bd (e + 40) (tmax (hullM (mkR n F.c).length Ps) ((mkR n F.c).getD k 0) k) := fun k hk => by
    have hk1 := (mem_usedZ.mp hk).1
    rw [ln] at hk1
    rw [ln, mkR_getD hk1]
    unfold tmin tmax
    exact bd_min (bd_mul (fb.c k hk1) (bd_neg (bd_small (eb 0 (k + 1))))) (bd_mul (fb.c k hk1) (bd_small (eb (k + 1) 0)))
  have lz := usedZ_len (cs := mkR n F.c)
  unfold Fm.low Fm.high lowF highF
  constructor
  · split
    · obtain ⟨s, hs, es⟩ := (minV_le (cs := mkR n F.c) hr).2
      rw [es]
      exact bd_val fb fb.l hn (hp s hs)
    · unfold spanLo
      exact bd_sum (n := n) fb.l (by omega) hn fun k hk => (tb k hk).1
  · split
    · obtain ⟨s, hs, es⟩ := (maxV_ge (cs := mkR n F.c) hr).2
      rw [es]
      exact bd_val fb fb.h hn (hp s hs)
    · unfold spanHi
      exact bd_sum (n := n) fb.h (by omega) hn fun k hk => (tb k hk).2
def Eb : Nat → Nat
  | 0 => 0
  | m + 1 => 2 * Eb m + 100
def Ef.ok (S : List Str) : Nat → Ef → Prop
  | 0, _ => False
  | _ + 1, .num i => -1000000000000 ≤ i ∧ i ≤ 1000000000000
  | _ + 1, .var z => z ∈ S
  | m + 1, .bin _ a b => a.ok S m ∧ b.ok S m
def Kok (S N : List Str) (κ : Str → Int) : Prop := ∀ z ∈ S, z ∉ N → -1000000000000 ≤ κ z ∧ κ z ≤ 1000000000000
theorem FmB.mono {a b n : Nat} {F : Fm} (h : FmB a n F) (l : a ≤ b) : FmB b n F := ⟨fun k hk => (h.c k hk).mono l, h.l.mono l, h.h.mono l⟩
theorem times_bd {a b n : Nat} {F : Fm} {v : Int} (h : FmB a n F) (hv : Bd b v) : FmB (b + a) n (F.times v) :=
  ⟨fun k hk => bd_mul hv (h.c k hk), (bd_min (bd_mul hv h.l) (bd_mul hv h.h)).1, (bd_min (bd_mul hv h.l) (bd_mul hv h.h)).2⟩
theorem add_bd {a n : Nat} {F G : Fm} (h : FmB a n F) (k : FmB a n G) : FmB (a + 1) n (F.add G) := ⟨fun i hi => (bd_add (h.c i hi) (k.c i hi)).1, (bd_add h.l k.l).1, (bd_add h.h k.h).1⟩
theorem fm_bd {S N : List Str} {κ : Str → Int} {n : Nat} {Ps : List (List Int)} (ne : Ps ≠ []) (hp : PtB Ps) (hn : n ≤ 60) (hκ : Kok S N κ) : ∀ {m : Nat} {e : Ef}, e.ok S m → FmB (Eb m) n (fm N κ n Ps e)
  | 0, _, h => h.elim
  | m + 1, .num i, h => ⟨fun k _ => (show Bd 1 0 by show (0 : Nat) < 2; decide).mono (by unfold Eb; omega), (bd_small h).mono (by unfold Eb; omega), (bd_small h).mono (by unfold Eb; omega)⟩
  | m + 1, .var z, h => by
    unfold fm
    split
    · refine ⟨fun k _ => ?_, (show Bd 1 0 by show (0 : Nat) < 2; decide).mono (by unfold Eb; omega), (show Bd 1 0 by show (0 : Nat) < 2; decide).mono (by unfold Eb; omega)⟩
      show Bd _ (if k = _ then 1 else 0)
      split
      · exact (show Bd 1 1 by show (1 : Nat) < 2; decide).mono (by unfold Eb; omega)
      · exact (show Bd 1 0 by show (0 : Nat) < 2; decide).mono (by unfold Eb; omega)
    · rename_i hz
      have hk := hκ z h hz
      exact ⟨fun k _ => (show Bd 1 0 by show (0 : Nat) < 2; decide).mono (by unfold Eb; omega), (bd_small hk).mono (by unfold Eb; omega), (bd_small hk).mono (by unfold Eb; omega)⟩
  | m + 1, .bin o a b, h => by
    have ha := fm_bd ne hp hn hκ h.1
    have hb := fm_bd ne hp hn hκ h.2
    cases o with
    | add => exact (add_bd ha hb).mono (by show Eb m + 1 ≤ 2 * Eb m + 100; omega)
    | sub => exact (add_bd (ha.mono (Nat.le_succ _)) (((times_bd (b := 1) hb (by show (1 : Nat) < 2; decide)).mono (by omega)))).mono (by show Eb m + 1 + 1 ≤ 2 * Eb m + 100; omega)
    | mul =>
      have l1 := low_bd ne hp hn ha
      have l2 := low_bd ne hp hn hb
      unfold fm
      split
      · exact (times_bd hb ha.l).mono (by show Eb m + Eb m ≤ 2 * Eb m + 100; omega)
      · split
        · exact (times_bd ha hb.l).mono (by show Eb m + Eb m ≤ 2 * Eb m + 100; omega)
        · have q1 := bd_mul l1.1 l2.1
          have q2 := bd_mul l1.1 l2.2
          have q3 := bd_mul l1.2 l2.1
          have q4 := bd_mul l1.2 l2.2
          refine FmB.mono (a := Eb m + 47 + (Eb m + 47)) ⟨fun k _ => (show Bd 1 0 by show (0 : Nat) < 2; decide).mono (by omega), ?_, ?_⟩ (by show Eb m + 47 + (Eb m + 47) ≤ 2 * Eb m + 100; omega)
          · exact (bd_min (bd_min q1 q2).1 (bd_min q3 q4).1).1
          · exact (bd_min (bd_min q1 q2).2 (bd_min q3 q4).2).2
theorem Eb_le : ∀ {m : Nat}, m ≤ 8 → Eb m ≤ 26000
  | m, h => by
    have : ∀ m ≤ 8, Eb m ≤ 26000 := by decide
    exact this m h
theorem cut_lo {xs : List V} {r : Int} (h0 : 0 ≤ r) (h : r.toNat ≤ xs.length) : cutV xs (some r) none = xs.drop r.toNat := by
  have e : HT.sIx xs.length 0 (some r) = r.toNat := by
    show (if r < 0 then (r + (xs.length : Int)).toNat else min r.toNat xs.length) = r.toNat
    rw [if_neg (by omega), Nat.min_eq_left h]
  unfold cutV
  rw [e]
  show (xs.drop r.toNat).take (xs.length - r.toNat) = _
  exact List.take_of_length_le (by rw [List.length_drop]; omega)
theorem cut_hi {xs : List V} {r : Int} (h0 : 0 ≤ r) (h : r.toNat ≤ xs.length) : cutV xs none (some r) = xs.take r.toNat := by
  have e : HT.sIx xs.length xs.length (some r) = r.toNat := by
    show (if r < 0 then (r + (xs.length : Int)).toNat else min r.toNat xs.length) = r.toNat
    rw [if_neg (by omega), Nat.min_eq_left h]
  unfold cutV
  rw [e]
  show (xs.drop 0).take (r.toNat - 0) = _
  rw [List.drop_zero, Nat.sub_zero]
/-! ### comprehensions with two sources -/
theorem bb_all : bootBuiltins "all" = some (.builtin "all") := by decide +kernel
theorem bb_any : bootBuiltins "any" = some (.builtin "any") := by decide +kernel
/-- the inner source's loop -/
theorem lc2_in {J1 : It} {n1 : Nat} {G1 : Hp → Prop} {Y1 : Nat → Hp → V → Hp → Prop} (w : Walk J1 n1 G1 Y1) {g1 : TG} {tt1 : TT} {te : TE} {vs1 : List Nat} {σ2 : L2.St} {H4 : Hp} {D : Addr} {Nx : Hp → Prop} (Pw : Nat → Hp → Prop) (h0 : Pw 0 H4) (hG : ∀ j H, j ≤ n1 → Pw j H → G1 H)
    (hs : ∀ j x H H', j < n1 → Pw j H → Y1 j H x H' → g1 x (wipe σ2 vs1) H' fun σ3 H5 => wipe σ3 vs1 = wipe σ2 vs1 ∧ tt1 σ3 H5 fun b H6 =>
      if b = true then te σ3 H6 fun y H7 => ∃ acc, H7 D = some (.lst acc) ∧ acc.length < sizeLine ∧ Pw (j + 1) (upd H7 D (.lst (acc ++ [y]))) else Pw (j + 1) H6) (hd : ∀ H, Pw n1 H → Nx H) :
    ∃ W1 : Nat → Nat → Hp → Prop, (∃ m, W1 0 m H4) ∧ ∀ j k H, W1 j k H →
      (J1.stop j H ∧ Nx H) ∨ (J1.go j H ∧ ∃ Nx1 : Hp → Prop, (∀ H', Nx1 H' → ∃ k', k' < k ∧ W1 (j + 1) k' H') ∧ ∀ x H', J1.yld j H x H' → g1 x (wipe σ2 vs1) H' fun σ3 H5 => wipe σ3 vs1 = wipe σ2 vs1 ∧ tt1 σ3 H5 fun b H6 =>
        if b = true then te σ3 H6 fun y H7 => ∃ acc, H7 D = some (.lst acc) ∧ acc.length < sizeLine ∧ Nx1 (upd H7 D (.lst (acc ++ [y]))) else Nx1 H6) := by
  refine ⟨fun j k H => k = n1 - j ∧ j ≤ n1 ∧ Pw j H, ⟨n1, by simp, Nat.zero_le _, h0⟩, ?_⟩
  rintro j k H ⟨rfl, hj, p⟩
  have q := hG j H hj p
  by_cases hlt : j < n1
  · exact .inr ⟨w.goes j H hlt q, Pw (j + 1), fun H' p' => ⟨n1 - (j + 1), by omega, rfl, hlt, p'⟩, fun x H' y => hs j x H H' hlt p (w.yields j H x H' hlt q y)⟩
  · have e : j = n1 := by omega
    subst e
    exact .inl ⟨w.stops H q, hd H p⟩
/-- the outer source's loop -/
theorem lc2_out {J : It} {n : Nat} {G : Hp → Prop} {Y : Nat → Hp → V → Hp → Prop} (w : Walk J n G Y) {g g1 : TG} {tt tt1 : TT} {wi1 : TI} {te : TE} {vs vs1 : List Nat} {σ : L2.St} {H1 : Hp} {D : Addr} {Qd : Hp → Prop} (Pv : Nat → Hp → Prop) (h0 : Pv 0 (upd H1 D (.lst []))) (hG : ∀ i H, i ≤ n → Pv i H → G H)
    (hs : ∀ i x H H', i < n → Pv i H → Y i H x H' → g x (wipe σ vs) H' fun σ2 H2 => wipe σ2 vs = wipe σ vs ∧ tt σ2 H2 fun b H3 =>
      if b = true then wi1 σ2 H3 fun J1 H4 => ∃ W1 : Nat → Nat → Hp → Prop, (∃ m, W1 0 m H4) ∧ ∀ j k H, W1 j k H →
        (J1.stop j H ∧ Pv (i + 1) H) ∨ (J1.go j H ∧ ∃ Nx1 : Hp → Prop, (∀ H', Nx1 H' → ∃ k', k' < k ∧ W1 (j + 1) k' H') ∧ ∀ x H', J1.yld j H x H' → g1 x (wipe σ2 vs1) H' fun σ3 H5 => wipe σ3 vs1 = wipe σ2 vs1 ∧ tt1 σ3 H5 fun b H6 =>
          if b = true then te σ3 H6 fun y H7 => ∃ acc, H7 D = some (.lst acc) ∧ acc.length < sizeLine ∧ Nx1 (upd H7 D (.lst (acc ++ [y]))) else Nx1 H6)
      else Pv (i + 1) H3) (hd : ∀ H, Pv n H → Qd H) :
    ∃ W : Nat → Nat → Hp → Prop, (∃ m, W 0 m (upd H1 D (.lst []))) ∧ ∀ i m H, W i m H →
      (J.stop i H ∧ Qd H) ∨ (J.go i H ∧ ∃ Nx : Hp → Prop, (∀ H', Nx H' → ∃ m', m' < m ∧ W (i + 1) m' H') ∧ ∀ x H', J.yld i H x H' → g x (wipe σ vs) H' fun σ2 H2 => wipe σ2 vs = wipe σ vs ∧ tt σ2 H2 fun b H3 =>
        if b = true then wi1 σ2 H3 fun J1 H4 => ∃ W1 : Nat → Nat → Hp → Prop, (∃ m, W1 0 m H4) ∧ ∀ j k H, W1 j k H →
          (J1.stop j H ∧ Nx H) ∨ (J1.go j H ∧ ∃ Nx1 : Hp → Prop, (∀ H', Nx1 H' → ∃ k', k' < k ∧ W1 (j + 1) k' H') ∧ ∀ x H', J1.yld j H x H' → g1 x (wipe σ2 vs1) H' fun σ3 H5 => wipe σ3 vs1 = wipe σ2 vs1 ∧ tt1 σ3 H5 fun b H6 =>
            if b = true then te σ3 H6 fun y H7 => ∃ acc, H7 D = some (.lst acc) ∧ acc.length < sizeLine ∧ Nx1 (upd H7 D (.lst (acc ++ [y]))) else Nx1 H6)
        else Nx H3) := by
  refine ⟨fun i m H => m = n - i ∧ i ≤ n ∧ Pv i H, ⟨n, by simp, Nat.zero_le _, h0⟩, ?_⟩
  rintro i m H ⟨rfl, hi, p⟩
  have q := hG i H hi p
  by_cases hlt : i < n
  · exact .inr ⟨w.goes i H hlt q, Pv (i + 1), fun H' p' => ⟨n - (i + 1), by omega, rfl, hlt, p'⟩, fun x H' y => hs i x H H' hlt p (w.yields i H x H' hlt q y)⟩
  · have e : i = n := by omega
    subst e
    exact .inl ⟨w.stops H q, hd H p⟩
/-- a list of truth values at D: k of them, and all hold if and only if A -/
def AllP (H1 : Hp) (D : Addr) (k : Nat) (A : Prop) (H : Hp) : Prop := Same H1 H ∧ ∃ bs : List Bool, H D = some (.lst (bs.map V.bl)) ∧ bs.length = k ∧ (bs.all id = true ↔ A)
theorem AllP.start {H1 : Hp} {D : Addr} {A : Prop} (hD : H1 D = none) (a : A) : AllP H1 D 0 A (upd H1 D (.lst [])) :=
  ⟨Same.new hD _, [], upd_same, rfl, ⟨fun _ => a, fun _ => rfl⟩⟩
theorem AllP.imp {H1 H : Hp} {D : Addr} {k k' : Nat} {A A' : Prop} (h : AllP H1 D k A H) (ek : k = k') (e : A ↔ A') : AllP H1 D k' A' H := by
  obtain ⟨s, bs, h1, h2, h3⟩ := h
  exact ⟨s, bs, h1, by omega, h3.trans e⟩
theorem AllP.push {H1 H H4 : Hp} {D : Addr} {k : Nat} {A : Prop} {b : Bool} (h : AllP H1 D k A H) (hD : H1 D = none) (s : Same H H4) (hk : k < sizeLine) :
    ∃ acc, H4 D = some (.lst acc) ∧ acc.length < sizeLine ∧ AllP H1 D (k + 1) (A ∧ b = true) (upd H4 D (.lst (acc ++ [.bl b]))) := by
  obtain ⟨s1, bs, h1, h2, h3⟩ := h
  refine ⟨_, s _ _ h1, by rw [List.length_map]; omega, fun c u e => by rw [upd_ne (ne_of_none e hD)]; exact s _ _ (s1 _ _ e), bs ++ [b], by rw [List.map_append]; exact upd_same, by simp [h2], ?_⟩
  rw [List.all_append, Bool.and_eq_true, h3]
  simp
/-! ### a tuple but for its first item -/
theorem slT_tail {K : PySem.W.Frag} {H : Hp} {a : Addr} {xs : List V} {Q : VK} (h : SqT K H a xs) (h0 : 1 ≤ xs.length) (q : ∀ p H', Same H H' → H' p = some (.tup (xs.drop 1)) → Q (.ref p) H') : rSlT K (.ref a) (some 1) none H Q := by
  have ec : cutV xs (some (1 : Int)) none = xs.drop 1 := cut_lo (r := 1) (by decide) (by show 1 ≤ _; exact h0)
  refine ⟨a, _, rfl, h, ?_, fun p hp => ?_⟩
  · rintro ⟨z, _⟩
    have e1 : HT.sIx xs.length 0 (some ((1 : Nat) : Int)) = min 1 xs.length := HT.sIx_nat _ _ 1
    have e2 : HT.sIx xs.length 0 (some (1 : Int)) = min 1 xs.length := e1
    rw [e2] at z
    omega
  · refine q p _ (Same.new hp _) ?_
    rw [← ec]
    exact upd_same
/-! ### the form of an expression: the program -/
theorem inV_str {z : Str} : ∀ N : List Str, inV (.str z) (N.map V.str) = decide (z ∈ N)
  | [] => rfl
  | x :: N => by
    have ih := inV_str (z := z) N
    unfold inV at *
    rw [List.map_cons, List.any_cons, ih]
    show (x == z || decide (z ∈ N)) = decide (z ∈ x :: N)
    by_cases h : x = z
    · subst h
      simp
    · have h1 : (x == z) = false := beq_eq_false_iff_ne.mpr h
      have h2 : z ≠ x := fun e => h e.symm
      rw [h1, Bool.false_or]
      simp [h2]
theorem idx_first {z : Str} : ∀ (N : List Str) {i : Nat}, i < N.idxOf z → N[i]? ≠ some z
  | [], _, h => absurd h (Nat.not_lt_zero _)
  | x :: N, i, h => by
    rw [List.idxOf_cons] at h
    by_cases e : x = z
    · subst e
      simp at h
    · have hb : (x == z) = false := beq_eq_false_iff_ne.mpr e
      rw [hb] at h
      cases i with
      | zero => exact fun y => e (Option.some.inj y)
      | succ i => exact idx_first N (Nat.lt_of_succ_lt_succ h)
theorem flatS (N : List Str) : (N.map V.str).all flatV = true := by
  induction N with
  | nil => rfl
  | cons x N ih => rw [List.map_cons, List.all_cons, ih]; rfl
def EfAt (K : PySem.W.Frag) (H : Hp) : Ef → V → Prop
  | .num i, v => ∃ p, v = .ref p ∧ SqT K H p [.str "num", .int i]
  | .var z, v => ∃ p, v = .ref p ∧ SqT K H p [.str "name", .str z]
  | .bin o a b, v => ∃ p x y, v = .ref p ∧ SqT K H p [.str o.s, x, y] ∧ EfAt K H a x ∧ EfAt K H b y
def KeepT (K : PySem.W.Frag) (H H' : Hp) : Prop := ∀ p xs, SqT K H p xs → SqT K H' p xs
theorem EfAt.keep {K : PySem.W.Frag} {H H' : Hp} (k : KeepT K H H') : ∀ {e : Ef} {v : V}, EfAt K H e v → EfAt K H' e v
  | .num _, _, ⟨p, e, h⟩ => ⟨p, e, k _ _ h⟩
  | .var _, _, ⟨p, e, h⟩ => ⟨p, e, k _ _ h⟩
  | .bin _ _ _, _, ⟨p, x, y, e, h, q, r⟩ => ⟨p, x, y, e, k _ _ h, EfAt.keep k q, EfAt.keep k r⟩
theorem EfAt.same {K : PySem.W.Frag} {H H' : Hp} (s : Same H H') {e : Ef} {v : V} (h : EfAt K H e v) : EfAt K H' e v := h.keep fun _ _ q => Same.tup s q
def spOcc (K : PySem.W.Frag) (m : Nat) : Sp := fun vs H Q _ => ∃ (nt : Addr) (v : V) (N S : List Str) (e : Ef), vs = [.ref nt, v] ∧ SqT K H nt (N.map V.str) ∧ EfAt K H e v ∧ e.ok S m ∧ ∀ H', Same H H' → Q (.bl (occ N e)) H'
def spProd (K : PySem.W.Frag) : Sp := fun vs H Q _ => ∃ (f g p : Addr) (F G : Fm) (n e : Nat) (Ps : List (List Int)), vs = [.ref f, .ref g, .ref p] ∧ n ≤ 60 ∧ FmAt K H f n F ∧ FmAt K H g n G ∧ FmB e n F ∧ FmB e n G ∧ e ≤ 100000 ∧ Ps ≠ [] ∧ PtB Ps ∧ Mx true true K H p (hullM n Ps) ∧
  ∀ q H', Same H H' → FmAt K H' q n (.prod (F.low n Ps) (F.high n Ps) (G.low n Ps) (G.high n Ps)) → Q (.ref q) H'
def NtAt (K : PySem.W.Frag) (H : Hp) (nt : Addr) (N : List Str) : Prop := SqT K H nt (N.map V.str) ∧ RpT.TupFz H nt
theorem NtAt.same {K : PySem.W.Frag} {H H' : Hp} {nt : Addr} {N : List Str} (s : Same H H') (h : NtAt K H nt N) : NtAt K H' nt N := ⟨Same.tup s h.1, let ⟨o, ys, a, b⟩ := h.2; ⟨o, ys, s _ _ a, b⟩⟩
def spFof (K : PySem.W.Frag) (m : Nat) : Sp := fun vs H Q _ => ∃ (v : V) (dk nt p : Addr) (kvs : List (Key × V)) (N S : List Str) (κ : Str → Int) (n : Nat) (Ps : List (List Int)) (e : Ef), vs = [v, .ref dk, .ref nt, .ref p] ∧ n ≤ 60 ∧ EfAt K H e v ∧ e.ok S m ∧ H dk = some (.dK kvs) ∧ (∀ z ∈ S, z ∉ N → valV kvs (Sum.inr z) = some (.int (κ z))) ∧ Kok S N κ ∧ NtAt K H nt N ∧ N.length ≤ n ∧ Ps ≠ [] ∧ PtB Ps ∧ Mx true true K H p (hullM n Ps) ∧
  ∀ q H', Same H H' → FmAt K H' q n (fm N κ n Ps e) → Q (.ref q) H'
theorem fn_vac {P : Program} {w : World} {K : PySem.W.Frag} {mg : Str → Option Value} {base : Heap} {k : Nat} {f : Addr} {fd : FuncData} {ps : List Str} {sp : Sp} (no : ∀ vs H Q E, ¬ sp vs H Q E) : FnOk P w K mg base CX0 k f fd ps sp :=
  ⟨fun vs H Q E h => absurd h (no vs H Q E), fun A outer s H args us vs Q E _ _ _ _ h => absurd h (no vs H Q E)⟩
section
variable {P : Program} {w : World} {K : PySem.W.Frag} {mg : Str → Option Value} {base : Heap}
theorem ok_product_form (T : Txt w K mg) : FnOk P w K mg base CX0 4 T.a_product_form T.d_product_form p_product_form (spProd K) := by
  have g_range_of_form := ok_range_of_form (P := P) (w := w) (K := K) (base := base) T
  refine T.F_product_form.ok sc_product_form (fun vs H Q E h => ?_) (fun cdv A outer s H vs Q E hr h => ?_)
  · obtain ⟨f, g, p, F, G, n, e, Ps, rfl, _⟩ := h
    rfl
  obtain ⟨f, g, p, F, G, n, e, Ps, rfl, hn, hF, hG, fb, gb, he, ne, hp, hM, q⟩ := h
  refine ⟨_, (pss_cons (ps_set (i := 3) sc_product_form.nd rfl (Or.inl rfl) (pe_call g_range_of_form (hr.mono (by first | decide | omega)) rfl T.m_range_of_form T.F_range_of_form.kp T.b_range_of_form .nil pass0 (pa_cons (pv 0) (pa_cons (pv 2) pa_nil))))
      (pss_cons (ps_set (i := 4) sc_product_form.nd rfl (Or.inr rfl) (pe_call g_range_of_form (hr.mono (by first | decide | omega)) rfl T.m_range_of_form T.F_range_of_form.kp T.b_range_of_form .nil pass0 (pa_cons (pv 1) (pa_cons (pv 2) pa_nil))))
      (pss_cons (ps_setLc2 (i := 5) (own := [("a", 6), ("b", 7)]) (vs1 := [7]) (g := gName 6) (g1 := gName 7) (tt := tYes) (tt1 := tYes) rfl sc_product_form.nd rfl rfl (sw_true rfl rfl rfl (by decide +kernel)) (pi_tup (pv 3)) (blkOk_by (own := [("a", 6), ("b", 7)]) (N := n_product_form) (sc := defScope s_product_form) (by decide +kernel)) (by decide) (fun _ _ _ _ _ => (pg_name (i := 6) sc_product_form.nd rfl (Or.inl rfl))) (fun _ _ _ _ _ => pts_nil) (fun _ _ _ _ _ => (show PI _ _ _ (iTup K _) from (pi_tup (pv 4)))) (fun _ _ _ _ _ => (pg_name (i := 7) sc_product_form.nd rfl (Or.inl rfl))) (fun _ _ _ _ _ => pts_nil) (fun _ _ _ _ _ => (pe_op op_mulW (pv 6) (pv 7))))
      (pss_one (ps_ret (pe_tup (pa_cons (pe_op RpT.op_repTA (pe_tup (pa_cons pe_int pa_nil)) (pe_op op_sub (pe_callB call_len_seq rfl T.z_len PySem.boot_len (pa_cons (pv 2) pa_nil)) pe_int)) (pa_cons (pe_callB (cr_min rfl) rfl T.z_min bb_min (pa_cons (pv 5) pa_nil)) (pa_cons (pe_callB (cr_max rfl) rfl T.z_max bb_max (pa_cons (pv 5) pa_nil)) pa_nil))))))))), ?_⟩
  have eb := entB_hull (n := n) ne hp
  have sM := hullM_sz n Ps
  have lF : (mkR n F.c).length = n := mkR_len
  have lG : (mkR n G.c).length = n := mkR_len
  refine ⟨_, rfl, _, rfl, f, p, hullM n Ps, mkR n F.c, F.lo, F.hi, rfl, hF, eb, by rw [lF]; exact hn, hM, by rw [lF]; exact sM, fun t1 H1 L1 G1 s1 ht1 r1 => ?_⟩
  have r1' : RngF (hullM (mkR n F.c).length Ps) (mkR n F.c) F.lo F.hi L1 G1 := by rw [lF]; exact r1
  obtain ⟨rfl, rfl⟩ := rng_is ne r1'
  refine ⟨_, rfl, _, rfl, g, p, hullM n Ps, mkR n G.c, G.lo, G.hi, rfl, hG.same s1, eb, by rw [lG]; exact hn, hM.same s1, by rw [lG]; exact sM, fun t2 H2 L2 G2 s2 ht2 r2 => ?_⟩
  have r2' : RngF (hullM (mkR n G.c).length Ps) (mkR n G.c) G.lo G.hi L2 G2 := by rw [lG]; exact r2
  obtain ⟨rfl, rfl⟩ := rng_is ne r2'
  have b1 := low_bd ne hp hn fb
  have b2 := low_bd ne hp hn gb
  have ht1' : SqT K H2 t1 [.int (F.low n Ps), .int (F.high n Ps)] := SqT.of (s2 _ _ ht1)
  have ht2' : SqT K H2 t2 [.int (G.low n Ps), .int (G.high n Ps)] := SqT.of ht2
  generalize F.low n Ps = a1 at *
  generalize F.high n Ps = c1 at *
  generalize G.low n Ps = a2 at *
  generalize G.high n Ps = c2 at *
  refine ⟨_, rfl, t1, rfl, ⟨_, ht1'⟩, fun D hD => ?_⟩
  have prodAt : ∀ {i j : Nat} {x y : V}, ([a1, c1].map V.int)[i]? = some x → ([a2, c2].map V.int)[j]? = some y → ∃ u v : Int, x = .int u ∧ y = .int v ∧ Bd (e + 47) u ∧ Bd (e + 47) v ∧ [a1 * a2, a1 * c2, c1 * a2, c1 * c2][i * 2 + j]? = some (u * v) ∧ i < 2 ∧ j < 2 := fun {i j x y} ex ey => by
    match i, j, ex, ey with
    | 0, 0, ex, ey => cases ex; cases ey; exact ⟨a1, a2, rfl, rfl, b1.1, b2.1, rfl, by decide, by decide⟩
    | 0, 1, ex, ey => cases ex; cases ey; exact ⟨a1, c2, rfl, rfl, b1.1, b2.2, rfl, by decide, by decide⟩
    | 1, 0, ex, ey => cases ex; cases ey; exact ⟨c1, a2, rfl, rfl, b1.2, b2.1, rfl, by decide, by decide⟩
    | 1, 1, ex, ey => cases ex; cases ey; exact ⟨c1, c2, rfl, rfl, b1.2, b2.2, rfl, by decide, by decide⟩
    | i + 2, _, ex, _ => simp at ex
    | _, j + 2, _, ey => simp at ey
  refine lc2_out (walk_tup (xs := [a1, c1].map V.int)) (fun i G => LcP (Same H2) (RInt [a1 * a2, a1 * c2, c1 * a2, c1 * c2]) D (i * 2) G) (lcp_start hD) (fun i G _ P => Same.tup P.1 ht1') ?_ ?_
  · rintro i x G G' hi P ⟨rfl, ex⟩
    have hi2 : i < 2 := hi
    obtain ⟨u0, _, rfl, _, _⟩ := prodAt (j := 0) ex rfl
    refine ⟨rfl, tyes ?_⟩
    refine ⟨_, rfl, t2, rfl, ⟨_, Same.tup P.1 ht2'⟩, ?_⟩
    refine lc2_in (walk_tup (xs := [a2, c2].map V.int)) (fun j F1 => LcP (Same H2) (RInt [a1 * a2, a1 * c2, c1 * a2, c1 * c2]) D (i * 2 + j) F1) P (fun j F1 _ P2 => Same.tup P2.1 ht2') ?_ ?_
    · rintro j y F1 F2 hj P2 ⟨rfl, ey⟩
      have hj2 : j < 2 := hj
      obtain ⟨u, v, e1, rfl, bu, bv, eu, _, _⟩ := prodAt ex ey
      cases e1
      refine ⟨rfl, tyes ?_⟩
      refine ⟨_, rfl, _, rfl, _, _, rfl, rfl, mulW bu bv (by omega) (by omega), ?_⟩
      exact lcp_same P2 hD (Same.refl _) (lt_line (by show i * 2 + j ≤ 10000000; omega)) RInt.mono ⟨_, eu, rfl⟩
    · intro F1 P2
      have e2 : i * 2 + ([a2, c2].map V.int).length = (i + 1) * 2 := by show i * 2 + 2 = _; omega
      rw [e2] at P2
      exact P2
  · intro G1 P
    have P : LcP (Same H2) (RInt [a1 * a2, a1 * c2, c1 * a2, c1 * c2]) D 4 G1 := P
    have ei := lcp_ints (K := K) P rfl
    obtain ⟨bs, hbs, lbs, _⟩ := id ((hM.same s1).same s2)
    have s12 := s1.trans s2
    refine ⟨(by show 1 ≤ sizeLine; decide), fun z hz => ?_⟩
    have sz := Same.new hz (.tup [.int 0])
    refine ⟨_, rfl, p, _, rfl, .inr (Same.tup (P.1.trans sz) hbs), _, _, rfl, rfl, ?_⟩
    have ln : (((bs.map V.ref).length : Nat) : Int) - 1 = (n : Int) := by
      rw [List.length_map, lbs, sM.1]
      omega
    have mn : ∀ m : Int, m ∈ [a1 * a2, a1 * c2, c1 * a2, c1 * c2] → (∀ y, y ∈ [a1 * a2, a1 * c2, c1 * a2, c1 * c2] → m ≤ y) → m = min4 (a1 * a2) (a1 * c2) (c1 * a2) (c1 * c2) := fun m hm hx => by
      have x1 := hx (a1 * a2) (by simp)
      have x2 := hx (a1 * c2) (by simp)
      have x3 := hx (c1 * a2) (by simp)
      have x4 := hx (c1 * c2) (by simp)
      simp only [List.mem_cons, List.not_mem_nil, or_false] at hm
      unfold min4
      omega
    have mx : ∀ m : Int, m ∈ [a1 * a2, a1 * c2, c1 * a2, c1 * c2] → (∀ y, y ∈ [a1 * a2, a1 * c2, c1 * a2, c1 * c2] → y ≤ m) → m = max4 (a1 * a2) (a1 * c2) (c1 * a2) (c1 * c2) := fun m hm hx => by
      have x1 := hx (a1 * a2) (by simp)
      have x2 := hx (a1 * c2) (by simp)
      have x3 := hx (c1 * a2) (by simp)
      have x4 := hx (c1 * c2) (by simp)
      simp only [List.mem_cons, List.not_mem_nil, or_false] at hm
      unfold max4
      omega
    refine ⟨z, _, _, rfl, rfl, SqT.of upd_same, by simp, by rw [ln]; omega, by rw [ln]; omega, by show 1 ≤ 1000; decide, fun e1 => ?_, fun e1 p2 hp2 => ?_⟩
    · have n1 : n = 1 := by omega
      subst n1
      refine ⟨_, rfl, D, _, rfl, SqL.of (sz _ _ ei), by show 0 < 4; decide, fun m1 hm1 hx1 => ?_⟩
      refine ⟨_, rfl, D, _, rfl, SqL.of (sz _ _ ei), by show 0 < 4; decide, fun m2 hm2 hx2 => ⟨(by show 3 ≤ sizeLine; decide), fun q2 hq2 => ?_⟩⟩
      obtain rfl := mn m1 hm1 hx1
      obtain rfl := mx m2 hm2 hx2
      have s2' := Same.new hq2 (.tup [.ref z, .int (min4 (a1 * a2) (a1 * c2) (c1 * a2) (c1 * c2)), .int (max4 (a1 * a2) (a1 * c2) (c1 * a2) (c1 * c2))])
      exact q q2 _ (((s12.trans P.1).trans sz).trans s2') ⟨z, SqT.of upd_same, SqT.of (s2' _ _ upd_same)⟩
    · rw [ln, Int.toNat_natCast, rep0] at *
      have sp2 := Same.new hp2 (.tup ((mkR n fun _ => (0 : Int)).map V.int))
      refine ⟨_, rfl, D, _, rfl, SqL.of (sp2 _ _ (sz _ _ ei)), by show 0 < 4; decide, fun m1 hm1 hx1 => ?_⟩
      refine ⟨_, rfl, D, _, rfl, SqL.of (sp2 _ _ (sz _ _ ei)), by show 0 < 4; decide, fun m2 hm2 hx2 => ⟨(by show 3 ≤ sizeLine; decide), fun q2 hq2 => ?_⟩⟩
      obtain rfl := mn m1 hm1 hx1
      obtain rfl := mx m2 hm2 hx2
      have s2' := Same.new hq2 (.tup [.ref p2, .int (min4 (a1 * a2) (a1 * c2) (c1 * a2) (c1 * c2)), .int (max4 (a1 * a2) (a1 * c2) (c1 * a2) (c1 * c2))])
      exact q q2 _ ((((s12.trans P.1).trans sz).trans sp2).trans s2') ⟨p2, SqT.of upd_same, SqT.of (s2' _ _ upd_same)⟩
theorem ok_occurs (T : Txt w K mg) : ∀ m : Nat, m ≤ 20 → FnOk P w K mg base CX0 (m + 1) T.a_occurs T.d_occurs p_occurs (spOcc K m)
  | 0, _ => fn_vac fun vs H Q E h => by obtain ⟨nt, v, N, S, e, _, _, _, h, _⟩ := h; exact h
  | m + 1, hm => by
    have g_occurs := ok_occurs T m (by omega)
    refine T.F_occurs.ok sc_occurs (fun vs H Q E h => ?_) (fun cdv A outer s H vs Q E hr h => ?_)
    · obtain ⟨nt, v, N, S, e, rfl, _⟩ := h
      rfl
    obtain ⟨nt, v, N, S, e, rfl, hN, hx, ho, q⟩ := h
    refine ⟨_, (pss_cons (ps_if (pt_cmpR op_eq (pe_ix ix_tup (pv 1) pe_int (fun _ _ => rfl)) pe_str (nomark _)) (pss_one (ps_ret (pe_cmpR op_in_seq (pe_ix ix_tup (pv 1) pe_int (fun _ _ => rfl)) (pv 0) (by rfl)))) pss_nil)
      (pss_cons (ps_if (pt_cmpR op_eq (pe_ix ix_tup (pv 1) pe_int (fun _ _ => rfl)) pe_str (nomark _)) (pss_one (ps_ret pe_bl)) pss_nil)
      (pss_one (ps_ret (pe_callB (cr_any rfl) rfl T.z_any bb_any (pa_cons (pe_lc (own := [("operand", 2)]) (g := gName 2) (tt := tYes) rfl sc_occurs.nd (pi_tup (pe_slice sl_tup (pv 1) (po_some pe_int) po_none)) (blkOk_by (own := [("operand", 2)]) (N := n_occurs) (sc := defScope s_occurs) (by decide +kernel)) (fun _ _ _ _ _ => (pg_name (i := 2) sc_occurs.nd rfl (Or.inl rfl))) (fun _ _ _ _ _ => pts_nil) (fun _ _ _ _ _ => (pe_call g_occurs (hr.mono (by first | decide | omega)) rfl T.m_occurs T.F_occurs.kp T.b_occurs .nil pass0 (pa_cons (pv 0) (pa_cons (pv 2) pa_nil))))) pa_nil)))))), ?_⟩
    cases e with
    | num i =>
      obtain ⟨p, rfl, hp⟩ := hx
      refine ⟨_, rfl, p, _, _, _, rfl, rfl, hp, rfl, rfl, _, rfl, ifF (by decide +kernel) ?_⟩
      refine ⟨_, rfl, p, _, _, _, rfl, rfl, hp, rfl, rfl, _, rfl, ifT (by decide +kernel) ?_⟩
      exact q H (Same.refl _)
    | var z =>
      obtain ⟨p, rfl, hp⟩ := hx
      refine ⟨_, rfl, p, _, _, _, rfl, rfl, hp, rfl, rfl, _, rfl, ifT (by decide +kernel) ?_⟩
      refine ⟨_, rfl, p, _, _, _, rfl, rfl, hp, rfl, _, rfl, nt, _, rfl, .inr hN, rfl, flatS N, ?_⟩
      rw [inV_str]
      exact q H (Same.refl _)
    | bin o a b =>
      obtain ⟨p, x, y, rfl, hp, hx, hy⟩ := hx
      have n1 : ¬ (V.str o.s = V.str "name") := by cases o <;> decide +kernel
      have n2 : ¬ (V.str o.s = V.str "num") := by cases o <;> decide +kernel
      refine ⟨_, rfl, p, _, _, _, rfl, rfl, hp, rfl, rfl, _, rfl, ifF (decide_eq_false n1) ?_⟩
      refine ⟨_, rfl, p, _, _, _, rfl, rfl, hp, rfl, rfl, _, rfl, ifF (decide_eq_false n2) ?_⟩
      refine ⟨_, rfl, _, rfl, ?_⟩
      dsimp only [tNoPart]
      refine slT_tail hp (by show 1 ≤ 3; decide) fun w1 F1 s1 hw => ⟨w1, rfl, ⟨_, SqT.of hw⟩, fun D hD => ?_⟩
      refine lc_it (walk_tup (xs := [x, y])) (fun i G => Same F1 G ∧ G D = some (.lst (([occ N a, occ N b].take i).map V.bl))) ⟨Same.new hD _, upd_same⟩ (fun i G _ P => Same.tup P.1 (SqT.of hw)) ?_ ?_
      · rintro i z G G' hi P ⟨rfl, ez⟩
        obtain ⟨eN, ez2, oN, he⟩ : ∃ e' : Ef, EfAt K H e' z ∧ e'.ok S m ∧ ([occ N a, occ N b].take (i + 1)).map V.bl = ([occ N a, occ N b].take i).map V.bl ++ [V.bl (occ N e')] := by
          match i, hi, ez with
          | 0, _, ez => cases ez; exact ⟨a, hx, ho.1, rfl⟩
          | 1, _, ez => cases ez; exact ⟨b, hy, ho.2, rfl⟩
        refine ⟨rfl, tyes ?_⟩
        refine ⟨_, rfl, _, rfl, nt, z, N, S, eN, rfl, Same.tup (s1.trans P.1) hN, ez2.same (s1.trans P.1), oN, fun H5 s5 => ?_⟩
        refine ⟨_, s5 _ _ P.2, lt_line (by rw [List.length_map, List.length_take]; show min i 2 ≤ _; omega), fun b o e => ?_, ?_⟩
        · rw [upd_ne (ne_of_none e hD)]
          exact s5 _ _ (P.1 _ _ e)
        · rw [he]
          exact upd_same
      · rintro G ⟨sG, eG⟩
        refine ⟨D, [occ N a, occ N b], rfl, SqL.of eG, ?_⟩
        have e1 : ([occ N a, occ N b].any id) = occ N (.bin o a b) := by
          show (occ N a || (occ N b || false)) = (occ N a || occ N b)
          rw [Bool.or_false]
        rw [e1]
        exact q G (s1.trans sG)
theorem ok_form_of (T : Txt w K mg) : ∀ m : Nat, m ≤ 8 → FnOk P w K mg base CX0 (m + 10) T.a_form_of T.d_form_of p_form_of (spFof K m)
  | 0, _ => fn_vac fun vs H Q E h => by obtain ⟨v, dk, nt, p, kvs, N, S, κ, n, Ps, e, _, _, _, h, _⟩ := h; exact h
  | m + 1, hm => by
    have g_form_of := ok_form_of T m (by omega)
    have g_constant_form := ok_constant_form (P := P) (w := w) (K := K) (base := base) T
    have g_column_form := ok_column_form (P := P) (w := w) (K := K) (base := base) T
    have g_sum_of_forms := ok_sum_of_forms (P := P) (w := w) (K := K) (base := base) T
    have g_difference_of_forms := ok_difference_of_forms (P := P) (w := w) (K := K) (base := base) T
    have g_form_times := ok_form_times (P := P) (w := w) (K := K) (base := base) T
    have g_product_form := ok_product_form (P := P) (w := w) (K := K) (base := base) T
    have g_occurs := ok_occurs (P := P) (w := w) (K := K) (base := base) T m (by omega)
    refine T.F_form_of.ok sc_form_of (fun vs H Q E h => ?_) (fun cdv A outer s H vs Q E hr h => ?_)
    · obtain ⟨v, dk, nt, p, kvs, N, S, κ, n, Ps, e, rfl, _⟩ := h
      rfl
    obtain ⟨v, dk, nt, p, kvs, N, S, κ, n, Ps, e, rfl, hn, hx, ho, hd, hk, hκ, hN, lN, ne, hp, hM, q⟩ := h
    refine ⟨_, (pss_cons (ps_set (i := 4) sc_form_of.nd rfl (Or.inl rfl) (pe_ix ix_tup (pv 0) pe_int (fun _ _ => rfl)))
      (pss_cons (ps_if (pt_cmpR op_eq (pv 4) pe_str (nomark _)) (pss_one (ps_ret (pe_call g_constant_form (hr.mono (by first | decide | omega)) rfl T.m_constant_form T.F_constant_form.kp T.b_constant_form .nil pass0 (pa_cons (pe_ix ix_tup (pv 0) pe_int (fun _ _ => rfl)) (pa_cons (pv 3) pa_nil))))) pss_nil)
      (pss_cons (ps_if (pt_cmpR op_eq (pv 4) pe_str (nomark _)) (pss_cons (ps_set (i := 5) sc_form_of.nd rfl (Or.inl rfl) (pe_ix ix_tup (pv 0) pe_int (fun _ _ => rfl)))
      (pss_cons (ps_if (pt_cmpR op_in_seq (pv 5) (pv 2) (by rfl)) (pss_one (ps_ret (pe_call g_column_form (hr.mono (by first | decide | omega)) rfl T.m_column_form T.F_column_form.kp T.b_column_form .nil pass0 (pa_cons (pe_op op_add (RpT.pe_bmT PySem.F.plainAttrs_tuple PySem.F.slot_tuple_index PySem.F.type_tuple_index mt_tup_index (pv 2) (pa_cons (pv 5) pa_nil)) pe_int) (pa_cons (pv 3) pa_nil))))) pss_nil)
      (pss_one (ps_ret (pe_call g_constant_form (hr.mono (by first | decide | omega)) rfl T.m_constant_form T.F_constant_form.kp T.b_constant_form .nil pass0 (pa_cons (pe_dget (hu_of hr) (pv 1) (pv 5) (fun _ _ => rfl)) (pa_cons (pv 3) pa_nil))))))) pss_nil)
      (pss_cons (ps_set (i := 6) sc_form_of.nd rfl (Or.inl rfl) (pe_call g_form_of (hr.mono (by first | decide | omega)) rfl T.m_form_of T.F_form_of.kp T.b_form_of .nil pass0 (pa_cons (pe_ix ix_tup (pv 0) pe_int (fun _ _ => rfl)) (pa_cons (pv 1) (pa_cons (pv 2) (pa_cons (pv 3) pa_nil))))))
      (pss_cons (ps_set (i := 7) sc_form_of.nd rfl (Or.inl rfl) (pe_call g_form_of (hr.mono (by first | decide | omega)) rfl T.m_form_of T.F_form_of.kp T.b_form_of .nil pass0 (pa_cons (pe_ix ix_tup (pv 0) pe_int (fun _ _ => rfl)) (pa_cons (pv 1) (pa_cons (pv 2) (pa_cons (pv 3) pa_nil))))))
      (pss_cons (ps_if (pt_cmpR op_eq (pv 4) pe_str (nomark _)) (pss_one (ps_ret (pe_call g_sum_of_forms (hr.mono (by first | decide | omega)) rfl T.m_sum_of_forms T.F_sum_of_forms.kp T.b_sum_of_forms .nil pass0 (pa_cons (pv 6) (pa_cons (pv 7) pa_nil))))) pss_nil)
      (pss_cons (ps_if (pt_cmpR op_eq (pv 4) pe_str (nomark _)) (pss_one (ps_ret (pe_call g_difference_of_forms (hr.mono (by first | decide | omega)) rfl T.m_difference_of_forms T.F_difference_of_forms.kp T.b_difference_of_forms .nil pass0 (pa_cons (pv 6) (pa_cons (pv 7) pa_nil))))) pss_nil)
      (pss_cons (ps_if (pt_not (pt_val (pe_call g_occurs (hr.mono (by first | decide | omega)) rfl T.m_occurs T.F_occurs.kp T.b_occurs .nil pass0 (pa_cons (pv 2) (pa_cons (pe_ix ix_tup (pv 0) pe_int (fun _ _ => rfl)) pa_nil))))) (pss_one (ps_ret (pe_call g_form_times (hr.mono (by first | decide | omega)) rfl T.m_form_times T.F_form_times.kp T.b_form_times .nil pass0 (pa_cons (pv 7) (pa_cons (pe_ix ix_tup (pv 6) pe_int (fun _ _ => rfl)) pa_nil))))) pss_nil)
      (pss_cons (ps_if (pt_not (pt_val (pe_call g_occurs (hr.mono (by first | decide | omega)) rfl T.m_occurs T.F_occurs.kp T.b_occurs .nil pass0 (pa_cons (pv 2) (pa_cons (pe_ix ix_tup (pv 0) pe_int (fun _ _ => rfl)) pa_nil))))) (pss_one (ps_ret (pe_call g_form_times (hr.mono (by first | decide | omega)) rfl T.m_form_times T.F_form_times.kp T.b_form_times .nil pass0 (pa_cons (pv 6) (pa_cons (pe_ix ix_tup (pv 7) pe_int (fun _ _ => rfl)) pa_nil))))) pss_nil)
      (pss_one (ps_ret (pe_call g_product_form (hr.mono (by first | decide | omega)) rfl T.m_product_form T.F_product_form.kp T.b_product_form .nil pass0 (pa_cons (pv 6) (pa_cons (pv 7) (pa_cons (pv 3) pa_nil))))))))))))))), ?_⟩
    have sM := hullM_sz n Ps
    cases e with
    | num i =>
      obtain ⟨t, rfl, ht⟩ := hx
      refine ⟨_, rfl, t, _, _, _, rfl, rfl, ht, rfl, ?_⟩
      refine ⟨_, rfl, rfl, _, rfl, ifT (by decide +kernel) ?_⟩
      refine ⟨_, rfl, t, _, _, _, rfl, rfl, ht, rfl, _, rfl, i, p, hullM n Ps, n, rfl, hn, hM, sM, fun q1 H1 s1 h1 => ?_⟩
      exact q q1 H1 s1 h1
    | var z =>
      obtain ⟨t, rfl, ht⟩ := hx
      refine ⟨_, rfl, t, _, _, _, rfl, rfl, ht, rfl, ?_⟩
      refine ⟨_, rfl, rfl, _, rfl, ifF (by decide +kernel) ?_⟩
      refine ⟨_, rfl, rfl, _, rfl, ifT (by decide +kernel) ?_⟩
      refine ⟨_, rfl, t, _, _, _, rfl, rfl, ht, rfl, ?_⟩
      refine ⟨_, rfl, _, rfl, nt, _, rfl, .inr hN.1, rfl, flatS N, _, rfl, ?_⟩
      rw [inV_str]
      refine ite2 (fun hz => ?_) (fun hz => ?_)
      · have mz : z ∈ N := of_decide_eq_true hz
        have li := List.idxOf_lt_length_iff.mpr mz
        have e1 : fm N κ n Ps (.var z) = .col (N.idxOf z) := by
          unfold fm
          rw [if_pos mz]
        rw [e1] at q
        refine ⟨_, rfl, ⟨nt, rfl, hN.2⟩, _, rfl, nt, N, z, N.idxOf z, rfl, rfl, hN.1, ?_, ?_, _, _, rfl, rfl, _, rfl, N.idxOf z, p, hullM n Ps, n, rfl, hn, hM, sM, fun q1 H1 s1 h1 => ?_⟩
        · rw [List.getElem?_eq_getElem li, List.getElem_idxOf]
        · intro i hi he
          exact idx_first N hi he
        · exact q q1 H1 s1 h1
      · have mz : z ∉ N := fun y => hz (decide_eq_true y)
        have e1 : fm N κ n Ps (.var z) = .con (κ z) := by
          unfold fm
          rw [if_neg mz]
        rw [e1] at q
        have kz := hk z ho mz
        refine ⟨_, rfl, _, rfl, dk, _, rfl, .inl ⟨_, _, .inl hd, rfl, kz.symm⟩, _, rfl, κ z, p, hullM n Ps, n, rfl, hn, hM, sM, fun q1 H1 s1 h1 => ?_⟩
        exact q q1 H1 s1 h1
    | bin o a b =>
      obtain ⟨t, x, y, rfl, ht, hx, hy⟩ := hx
      have n1 : ¬ (V.str o.s = V.str "name") := by cases o <;> decide +kernel
      have n2 : ¬ (V.str o.s = V.str "num") := by cases o <;> decide +kernel
      refine ⟨_, rfl, t, _, _, _, rfl, rfl, ht, rfl, ?_⟩
      refine ⟨_, rfl, rfl, _, rfl, ifF (decide_eq_false n2) ?_⟩
      refine ⟨_, rfl, rfl, _, rfl, ifF (decide_eq_false n1) ?_⟩
      have fb : ∀ {e : Ef}, e.ok S m → FmB (Eb m) n (fm N κ n Ps e) := fun {e} h => fm_bd (n := n) ne hp hn hκ h
      have el := Eb_le (m := m) (by omega)
      refine ⟨_, rfl, t, _, _, _, rfl, rfl, ht, rfl, _, rfl, _, rfl, _, rfl, x, dk, nt, p, kvs, N, S, κ, n, Ps, a, rfl, hn, hx, ho.1, hd, hk, hκ, hN, lN, ne, hp, hM, fun L H1 s1 hL => ?_⟩
      refine ⟨_, rfl, t, _, _, _, rfl, rfl, Same.tup s1 ht, rfl, _, rfl, _, rfl, _, rfl, y, dk, nt, p, kvs, N, S, κ, n, Ps, b, rfl, hn, hy.same s1, ho.2, s1 _ _ hd, hk, hκ, hN.same s1, lN, ne, hp, hM.same s1, fun R H2 s2 hR => ?_⟩
      have s12 := s1.trans s2
      have hL := hL.same s2
      have hM := hM.same s12
      have hN := hN.same s12
      have hx := hx.same s12
      have hy := hy.same s12
      have ht := Same.tup s12 ht
      have q : ∀ q1 H3, Same H2 H3 → FmAt K H3 q1 n (fm N κ n Ps (.bin o a b)) → Q (.ref q1) H3 := fun q1 H3 s3 h3 => q q1 H3 (s12.trans s3) h3
      refine ⟨_, rfl, rfl, _, rfl, ite2 (fun h => ?_) (fun h => ?_)⟩
      · obtain rfl : o = .add := by
          have := of_decide_eq_true h
          revert this
          cases o <;> decide +kernel
        exact ⟨_, rfl, _, rfl, L, R, _, _, n, rfl, hn, hL, hR, q⟩
      have na : o ≠ .add := fun e => by
        subst e
        exact h (by decide +kernel)
      refine ⟨_, rfl, rfl, _, rfl, ite2 (fun h => ?_) (fun h => ?_)⟩
      · obtain rfl : o = .sub := by
          have := of_decide_eq_true h
          revert this
          cases o <;> decide +kernel
        exact ⟨_, rfl, _, rfl, L, R, _, _, n, _, rfl, hn, hL, hR, fb ho.2, by omega, q⟩
      have ns : o ≠ .sub := fun e => by
        subst e
        exact h (by decide +kernel)
      obtain rfl : o = .mul := by
        revert na ns
        cases o <;> simp
      refine ⟨_, rfl, _, rfl, t, _, _, _, rfl, rfl, ht, rfl, nt, x, N, S, a, rfl, hN.1, hx, ho.1, fun H3 s3 => ?_⟩
      refine ⟨_, rfl, ?_⟩
      refine ite2 (fun h => ?_) (fun h => ?_)
      · have oa : occ N a = false := by simpa using h
        have ef : fm N κ n Ps (.bin .mul a b) = (fm N κ n Ps b).times (fm N κ n Ps a).lo := by
          rw [fm, if_pos oa]
        rw [ef] at q
        obtain ⟨c1, hc1, _⟩ := id (hL.same s3)
        exact ⟨_, rfl, _, rfl, L, _, _, _, rfl, rfl, hc1, rfl, R, _, _, n, _, _, rfl, hn, hR.same s3, fb ho.2, (fb ho.1).l, by omega, by omega, fun q1 H4 s4 h4 => q q1 H4 (s3.trans s4) h4⟩
      have oa : ¬ occ N a = false := by simpa using h
      refine ⟨_, rfl, _, rfl, t, _, _, _, rfl, rfl, Same.tup s3 ht, rfl, nt, y, N, S, b, rfl, Same.tup s3 hN.1, hy.same s3, ho.2, fun H4 s4 => ?_⟩
      have s34 := s3.trans s4
      refine ⟨_, rfl, ?_⟩
      refine ite2 (fun h => ?_) (fun h => ?_)
      · have ob : occ N b = false := by simpa using h
        have ef : fm N κ n Ps (.bin .mul a b) = (fm N κ n Ps a).times (fm N κ n Ps b).lo := by
          rw [fm, if_neg oa, if_pos ob]
        rw [ef] at q
        obtain ⟨c1, hc1, _⟩ := id (hR.same s34)
        exact ⟨_, rfl, _, rfl, R, _, _, _, rfl, rfl, hc1, rfl, L, _, _, n, _, _, rfl, hn, hL.same s34, fb ho.1, (fb ho.2).l, by omega, by omega, fun q1 H5 s5 h5 => q q1 H5 (s34.trans s5) h5⟩
      have ob : ¬ occ N b = false := by simpa using h
      have ef : fm N κ n Ps (.bin .mul a b) = .prod ((fm N κ n Ps a).low n Ps) ((fm N κ n Ps a).high n Ps) ((fm N κ n Ps b).low n Ps) ((fm N κ n Ps b).high n Ps) := by
        rw [fm, if_neg oa, if_neg ob]
      rw [ef] at q
      exact ⟨_, rfl, _, rfl, _, rfl, L, R, p, _, _, n, _, Ps, rfl, hn, hL.same s34, hR.same s34, fb ho.1, fb ho.2, by omega, ne, hp, hM.same s34, fun q1 H5 s5 h5 => q q1 H5 (s34.trans s5) h5⟩
end
/-! ### one of a row, a far number (as in Draw28.inc) -/
theorem Sq.or {K : PySem.W.Frag} {t : Bool} {H : Hp} {p : Addr} {xs : List V} (h : Sq t K H p xs) : SqL K H p xs ∨ SqT K H p xs := by
  cases t
  · exact .inl h
  · exact .inr h
theorem Sq.ix {K : PySem.W.Frag} {t : Bool} {H : Hp} {p : Addr} {xs : List V} {i : Int} {v : V} {Q : VK} (h : Sq t K H p xs) (e : atI xs i = some v) (q : Q v H) : rIxT K (.ref p) (.int i) H Q ∨ rIxL K (.ref p) (.int i) H Q := by
  cases t
  · exact .inr ⟨p, xs, i, v, rfl, rfl, h, e, q⟩
  · exact .inl ⟨p, xs, i, v, rfl, rfl, h, e, q⟩
def spOneG (K : PySem.W.Frag) : Sp := fun vs H Q _ => ∃ (a p : Addr) (xs : List V) (t : Bool), vs = [.ref a, .ref p] ∧ Src H a ∧ (t = false → p ≠ a) ∧ Sq t K H p xs ∧ 0 < xs.length ∧ xs.length < 1000 ∧ ∀ v H', v ∈ xs → Stp a H H' → Q v H'
def spFar : Sp := fun vs H Q _ => ∃ a : Addr, vs = [.ref a] ∧ Src H a ∧ ∀ (r : Int) H', Stp a H H' → Q (.int r) H'
theorem sqT_but {K : PySem.W.Frag} {D p : Addr} {H H' : Hp} {xs acc : List V} (b : But D H H') (hD : H D = some (.lst acc)) (h : SqT K H p xs) : SqT K H' p xs := by
  have ne : ∀ {u : HO}, H p = some u → (∀ ys, u ≠ .lst ys) → p ≠ D := fun e n z => by
    rw [z, hD] at e
    exact n _ (Option.some.inj e).symm
  rcases h with (q | ⟨o', q⟩) | q
  · exact .inl (.inl (b _ _ (ne q (fun _ z => nomatch z)) q))
  · exact .inl (.inr ⟨o', b _ _ (ne q (fun _ z => nomatch z)) q⟩)
  · exact .inr q
def RTup (K : PySem.W.Frag) (M : List (List Int)) (D : Addr) : Nat → V → Hp → Prop := fun j y H => ∃ (a : Addr) (r : List Int), y = .ref a ∧ M[j]? = some r ∧ ∀ H', But D H H' → SqT K H' a (r.map V.int)
theorem RTup.mono {K : PySem.W.Frag} {M : List (List Int)} {D : Addr} : ∀ (j : Nat) (z : V) (G G' : Hp), RTup K M D j z G → But D G G' → RTup K M D j z G' := by
  rintro j z G G' ⟨a, r, e1, e2, e3⟩ b
  exact ⟨a, r, e1, e2, fun H' c => e3 H' (b.trans c)⟩
theorem Stp.sq {K : PySem.W.Frag} {a p : Addr} {H H' : Hp} {xs : List V} {t : Bool} (s : Stp a H H') (hs : Src H a) (ne : t = false → p ≠ a) (h : Sq t K H p xs) : Sq t K H' p xs := by
  cases t
  · exact s.rdL h (ne rfl)
  · exact s.rd h hs
section
variable {P : Program} {w : World} {K : PySem.W.Frag} {mg : Str → Option Value} {base : Heap}
theorem ok_l_oneG (T : Txt w K mg) : FnOk P w K mg base CX0 2 T.a_l_one T.d_l_one p_l_one (spOneG K) := by
  have g_l_pick := ok_l_pick (P := P) (w := w) (base := base) T
  refine T.F_l_one.ok sc_l_one (fun vs H Q E h => ?_) (fun cdv A outer s H vs Q E hr h => ?_)
  · obtain ⟨a, p, xs, t, rfl, _⟩ := h
    rfl
  obtain ⟨a, p, xs, t, rfl, hS, ne, hx, h0, h9, q⟩ := h
  refine ⟨_, (pss_one (ps_ret (pe_ix (IxR.or ix_tup ix_list) (pv 1) (pe_call g_l_pick (hr.mono (by first | decide | omega)) rfl T.m_l_pick T.F_l_pick.kp T.b_l_pick .nil pass0 (pa_cons (pv 0) (pa_cons (pe_callB call_len_seq rfl T.z_len PySem.boot_len (pa_cons (pv 1) pa_nil)) pa_nil))) (fun _ _ => rfl)))), ?_⟩
  refine ⟨_, rfl, _, rfl, _, rfl, p, _, rfl, Sq.or (t := t) hx, a, _, rfl, hS, by omega, fun r H' st r0 r1 => ?_⟩
  have hr' : r.toNat < xs.length := by omega
  exact Sq.ix (t := t) (st.sq hS ne hx) (atI_int (xs := xs) r0 hr') (q _ _ (List.getElem_mem hr') st)
theorem ok_l_far (T : Txt w K mg) : FnOk P w K mg base CX0 2 T.a_l_far T.d_l_far p_l_far spFar := by
  have g_l_pick := ok_l_pick (P := P) (w := w) (base := base) T
  refine T.F_l_far.ok sc_l_far (fun vs H Q E h => ?_) (fun cdv A outer s H vs Q E hr h => ?_)
  · obtain ⟨a, rfl, _⟩ := h
    rfl
  obtain ⟨a, rfl, hS, q⟩ := h
  refine ⟨_, (pss_cons (ps_if (pt_cmpR op_eq (pe_call g_l_pick (hr.mono (by first | decide | omega)) rfl T.m_l_pick T.F_l_pick.kp T.b_l_pick .nil pass0 (pa_cons (pv 0) (pa_cons pe_int pa_nil))) pe_int (nomark _)) (pss_one (ps_ret (pe_op op_mul (pe_op op_sub (pe_call g_l_pick (hr.mono (by first | decide | omega)) rfl T.m_l_pick T.F_l_pick.kp T.b_l_pick .nil pass0 (pa_cons (pv 0) (pa_cons pe_int pa_nil))) pe_int) pe_int))) pss_nil)
      (pss_one (ps_ret (pe_op op_sub (pe_call g_l_pick (hr.mono (by first | decide | omega)) rfl T.m_l_pick T.F_l_pick.kp T.b_l_pick .nil pass0 (pa_cons (pv 0) (pa_cons pe_int pa_nil))) pe_int)))), ?_⟩
  refine ⟨_, rfl, a, 4, rfl, hS, by decide, fun r H1 st r0 r1 => ⟨rfl, _, rfl, ite2 (fun _ => ?_) (fun _ => ?_)⟩⟩
  · refine ⟨_, rfl, a, 2000001, rfl, st.s, by decide, fun r2 H2 st2 r20 r21 => ?_⟩
    refine ⟨_, _, rfl, rfl, _, _, rfl, rfl, .inr ⟨by decide, by decide⟩, ?_⟩
    exact q _ _ (st.trans st2)
  · refine ⟨_, rfl, a, 13, rfl, st.s, by decide, fun r2 H2 st2 r20 r21 => ?_⟩
    refine ⟨_, _, rfl, rfl, ?_⟩
    exact q _ _ (st.trans st2)
end
/-! ### the least box of points (as in Draw28.inc), of none too -/
def spBox (K : PySem.W.Frag) : Sp := fun vs H Q _ => ∃ (p : Addr) (n : Nat) (Ps : List (List Int)), vs = [.ref p] ∧ n ≤ 900 ∧ Mx false true K H p Ps ∧ (∀ r ∈ Ps, r.length = n) ∧ Ps.length ≤ 1000 ∧ ∀ v H', Same H H' → BoxAt K H' v (hull n Ps) → Q v H'
section
variable {P : Program} {w : World} {K : PySem.W.Frag} {mg : Str → Option Value} {base : Heap}
theorem ok_l_box (T : Txt w K mg) : FnOk P w K mg base CX0 1 T.a_l_box T.d_l_box p_l_box (spBox K) := by
  refine T.F_l_box.ok sc_l_box (fun vs H Q E h => ?_) (fun cdv A outer s H vs Q E hr h => ?_)
  · obtain ⟨p, n, Ps, rfl, _⟩ := h
    rfl
  obtain ⟨p, n, Ps, rfl, hn, hM, hl, hz, q⟩ := h
  refine ⟨_, (pss_cons (ps_if (pt_cmpR (op_eqL0 hr.units0) (pv 0) (pe_lst pa_nil) (nomark _)) (pss_one (ps_ret pe_non)) pss_nil)
      (pss_cons (ps_set (i := 1) sc_l_box.nd rfl (Or.inr rfl) (pe_lc (own := [("_law_point", 2)]) (g := gName 2) (tt := tYes) rfl sc_l_box.nd (pi_list (pv 0)) (blkOk_by (own := [("_law_point", 2)]) (N := n_l_box) (sc := defScope s_l_box) (by decide +kernel)) (fun _ _ _ _ _ => (pg_name (i := 2) sc_l_box.nd rfl (Or.inl rfl))) (fun _ _ _ _ _ => pts_nil) (fun _ _ _ _ _ => (pe_op (show OpR _ _ (rCatT K) from op_catT) (pe_tup (pa_cons pe_int pa_nil)) (pv 2)))))
      (pss_cons (ps_set (i := 3) sc_l_box.nd rfl (Or.inl rfl) (pe_lst pa_nil))
      (pss_cons (ps_for PassesOwn.never rfl (pi_range1 rfl T.z_range (pa_cons (pe_callB call_len_seq rfl T.z_len PySem.boot_len (pa_cons (pe_ix ix_list (pv 1) pe_int (fun _ _ => rfl)) pa_nil)) pa_nil)) (pg_name (i := 4) sc_l_box.nd rfl (Or.inr rfl))
        (pss_one (ps_expr (pe_bm PySem.F.plainAttrs_list PySem.F.slot_list_append PySem.F.type_list_append mt_append (pv 3) (pa_cons (pe_callTy call_tuple_of rfl T.z_tuple bt_tuple (pa_cons (pe_lc (own := [("_law_j", 5)]) (g := gName 5) (tt := tYes) rfl sc_l_box.nd (pi_range1 rfl T.z_range (pa_cons (pe_callB call_len_seq rfl T.z_len PySem.boot_len (pa_cons (pe_ix ix_list (pv 1) pe_int (fun _ _ => rfl)) pa_nil)) pa_nil)) (blkOk_by (own := [("_law_j", 5)]) (N := n_l_box) (sc := defScope s_l_box) (by decide +kernel)) (fun _ _ _ _ _ => (pg_name (i := 5) sc_l_box.nd rfl (Or.inr rfl))) (fun _ _ _ _ _ => pts_nil) (fun _ _ _ _ _ => (pe_callB (show CallR _ _ (rMax K) from (cr_max rfl)) rfl T.z_max bb_max (pa_cons (pe_lc (own := [("_law_point", 2)]) (g := gName 2) (tt := tYes) rfl sc_l_box.nd (show PI _ _ _ (iList K _) from (pi_list (pv 1))) (blkOk_by (own := [("_law_point", 2)]) (N := n_l_box) (sc := relS _ (defScope s_l_box)) (by decide +kernel)) (fun _ _ _ _ _ => (pg_name (i := 2) sc_l_box.nd rfl (Or.inl rfl))) (fun _ _ _ _ _ => pts_nil) (fun _ _ _ _ _ => (pe_op op_sub (pe_ix (show IxR _ (rIxT K) from ix_tup) (pv 2) (pv 4) (fun _ _ => rfl)) (pe_ix (show IxR _ (rIxT K) from ix_tup) (pv 2) (pv 5) (fun _ _ => rfl))))) pa_nil)))) pa_nil)) pa_nil)))))
      (pss_one (ps_ret (pe_callTy call_tuple_of rfl T.z_tuple bt_tuple (pa_cons (pv 3) pa_nil)))))))), ?_⟩
  obtain ⟨vs, hv, lv, hrow⟩ := hM.row
  refine ⟨_, rfl, (by show 0 ≤ sizeLine; decide), fun e he => ?_⟩
  have s0 : Same H (upd H e (.lst [])) := Same.new he _
  by_cases hne : Ps = []
  · subst hne
    have z : vs = [] := List.length_eq_zero_iff.mp (by simpa using lv)
    subst z
    exact ⟨p, e, [], rfl, rfl, s0.seq hv, SqL.of upd_same, _, rfl, ifT rfl (q .non _ s0 rfl)⟩
  have nev : vs ≠ [] := fun z => by
    subst z
    exact hne (List.length_eq_zero_iff.mp (by simpa using lv.symm))
  refine ⟨p, e, vs, rfl, rfl, s0.seq hv, SqL.of upd_same, _, rfl, ifF (by cases vs with
    | nil => exact absurd rfl nev
    | cons _ _ => rfl) ?_⟩
  refine ⟨_, rfl, p, rfl, ⟨vs, s0.seq hv⟩, fun D hD => ?_⟩
  refine lc_it (walk_list (xs := vs)) (LcP (Same (upd H e (.lst []))) (RTup K (Ps.map (0 :: ·)) D) D) (lcp_start hD) (fun _ F _ P => P.1.seq (s0.seq hv)) ?_ ?_
  · rintro i x F F' hi P ⟨rfl, ex⟩
    obtain ⟨a, r, rfl, er, ha⟩ := hrow i x ex
    have lr := hl r (List.mem_of_getElem? er)
    have ha1 := Sq.same (s0.trans P.1) ha
    refine ⟨rfl, tyes ?_⟩
    refine ⟨(by show 1 ≤ sizeLine; decide), fun t1 ht1 => ?_⟩
    refine ⟨_, rfl, cat0 (SqT.of upd_same) (Same.tup (Same.new ht1 _) ha1) (by omega) fun z1 Fa sa hz1 => ?_⟩
    obtain ⟨acc, q1, _⟩ := P.acc
    have sa2 := (Same.new ht1 (.tup [.int 0])).trans sa
    exact lcp_same P hD sa2 (lt_line (by omega)) RTup.mono ⟨z1, _, rfl, map_get er, fun F' bu => sqT_but bu (sa2 _ _ q1) hz1⟩
  · intro G P
    have mF : Mx false true K G D (Ps.map (0 :: ·)) := by
      obtain ⟨sG, acc, q1, q2, q3⟩ := P
      exact Mx.of (SqL.of q1) (by rw [q2, List.length_map, lv]) fun j y e => by
        obtain ⟨a, r, e1, e2, e3⟩ := q3 j y e
        exact ⟨a, r, e1, e2, e3 _ (But.of_same (Same.refl _))⟩
    have s1 := s0.trans P.1
    obtain ⟨fs, hf, lf, frow⟩ := mF.row
    rw [List.length_map] at lf
    have rows : ∀ (k : Nat) (x : V), fs[k]? = some x → ∃ (a : Addr) (r : List Int), x = .ref a ∧ Ps[k]? = some r ∧ r.length = n ∧ SqT K G a ((0 :: r).map V.int) := fun k x e => by
      obtain ⟨a, r, e1, e2, e3⟩ := frow k x e
      rw [List.getElem?_map] at e2
      cases e4 : Ps[k]? with
      | none => rw [e4] at e2; cases e2
      | some r0 =>
        rw [e4] at e2
        cases e2
        exact ⟨a, r0, e1, rfl, hl r0 (List.mem_of_getElem? e4), e3⟩
    have pos : 0 < fs.length := by
      rw [lf]
      exact List.length_pos_iff.mpr hne
    have f0 : fs[0]? = some fs[0] := List.getElem?_eq_getElem pos
    obtain ⟨a0, r0, x0, _, l0, h0⟩ := rows 0 _ f0
    rw [x0] at f0
    have len0 : ((0 :: r0).map V.int).length = n + 1 := by rw [List.length_map, List.length_cons, l0]
    refine ⟨(by show 0 ≤ sizeLine; decide), fun pr hpr => ?_⟩
    refine ⟨_, rfl, D, _, 0, _, rfl, rfl, (Same.new hpr _).seq hf, atI_nat (j := 0) f0, a0, _, rfl, .inr (Same.tup (Same.new hpr _) h0), _, rfl, by omega, by rw [len0]; omega, for_range (lo := 0) (fun i σ F => (∃ b c : Option V, σ = [some (.ref p), some (.ref D), none, some (.ref pr), b, c]) ∧ LcP (Same G) (RRow K true (hullM n Ps) pr) pr i F)
      ⟨⟨none, none, rfl⟩, lcp_start hpr⟩ ?_ ?_⟩
    · rintro i σ F hi ⟨⟨b, c, rfl⟩, PF⟩
      rw [len0] at hi
      obtain ⟨acc, a1, a2⟩ := PF.acc
      refine ⟨_, rfl, .inl ⟨rfl, _, SqL.of a1⟩, ?_⟩
      refine ⟨_, rfl, D, _, 0, _, rfl, rfl, PF.1.seq hf, atI_nat (j := 0) f0, a0, _, rfl, .inr (Same.tup PF.1 h0), _, rfl, by omega, by rw [len0]; omega, fun D2 hD2 => ?_⟩
      refine lc_it walk_range (LcP (Same F) (RInt ((List.range (n + 1)).map fun j => lmax (Ps.map (dif i j)))) D2) (lcp_start hD2) (fun _ _ _ _ => trivial) ?_ ?_
      · rintro j x F1 F2 hj P1 ⟨rfl, rfl⟩
        rw [len0] at hj
        have sF := PF.1.trans P1.1
        refine ⟨rfl, tyes ?_⟩
        refine ⟨_, rfl, D, rfl, ⟨fs, sF.seq hf⟩, fun D3 hD3 => ?_⟩
        refine lc_it (walk_list (xs := fs)) (LcP (Same F2) (RInt (Ps.map (dif i j))) D3) (lcp_start hD3) (fun _ F3 _ P3 => (sF.trans P3.1).seq hf) ?_ ?_
        · rintro k x F3 F4 hk P3 ⟨rfl, ex⟩
          obtain ⟨a, r, rfl, er, lr, ha⟩ := rows k x ex
          have ha1 := Same.tup (sF.trans P3.1) ha
          refine ⟨rfl, tyes ?_⟩
          refine ⟨_, rfl, _, rfl, a, _, _, _, rfl, rfl, ha1, atI_row (by simp; omega), _, rfl, _, rfl, a, _, _, _, rfl, rfl, ha1, atI_row (by simp; omega), _, _, rfl, rfl, ?_⟩
          exact lcp_same P3 hD3 (Same.refl _) (lt_line (by omega)) RInt.mono ⟨dif i j r, map_get er, rfl⟩
        · intro F3 P3
          refine ⟨D3, _, rfl, SqL.of (lcp_ints (K := K) P3 (by rw [List.length_map]; exact lf)), List.length_pos_iff.mpr (fun z => hne (List.map_eq_nil_iff.mp z)), fun m hm hx => ?_⟩
          exact lcp_same P1 hD2 P3.1 (lt_line (by omega)) RInt.mono ⟨m, by rw [lmax_eq hm hx]; exact map_get (range_get (by omega)), rfl⟩
      · intro F1 P1
        have ei := lcp_ints (K := K) P1 (by rw [len0]; simp)
        refine ⟨D2, _, rfl, .inl ⟨SqL.of ei, fun t ht => ?_⟩⟩
        have sF := P1.1.trans (Same.new ht (.tup (((List.range (n + 1)).map fun j => lmax (Ps.map (dif i j))).map V.int)))
        have tn : t ≠ pr := fun z => by
          have := P1.1 _ _ a1
          rw [← z, ht] at this
          cases this
        refine ⟨pr, acc, _, rfl, rfl, sF _ _ a1, lt_line (by omega), ⟨_, _, rfl⟩, ?_⟩
        exact lcp_put PF a1 hpr sF (lt_line (by omega)) RRow.mono ⟨t, _, rfl, map_get (range_get (by omega)), tn, Sq.upd_sameT⟩
    · rintro σ F ⟨⟨b, c, rfl⟩, PF⟩
      obtain ⟨as, h1, h2, h3⟩ := lcp_rows PF (by rw [len0]; simp [hullM])
      refine ⟨_, rfl, pr, _, rfl, .inl ⟨h1, fun l hl => ?_⟩⟩
      refine q (.ref l) _ ((s1.trans PF.1).trans (Same.new hl _)) ?_
      unfold hull
      rw [if_neg hne]
      exact ⟨l, rfl, as, Sq.upd_sameT, h2, fun i a r e1 e2 => Sq.same (Same.new hl _) (h3 i a r e1 e2)⟩
end
/-! ### points that are tracked tuples (keys of a dict) -/
def TA (H : Hp) (as : List Addr) (Ps : List (List Int)) : Prop := as.length = Ps.length ∧ ∀ (i : Nat) (a : Addr) (r : List Int), as[i]? = some a → Ps[i]? = some r → H a = some (.tup (r.map V.int))
def TPts (H : Hp) (p : Addr) (Ps : List (List Int)) : Prop := ∃ as : List Addr, H p = some (.lst (as.map V.ref)) ∧ TA H as Ps
theorem TA.same {H H' : Hp} {as : List Addr} {Ps : List (List Int)} (s : Same H H') (h : TA H as Ps) : TA H' as Ps := ⟨h.1, fun i a r e1 e2 => s _ _ (h.2 i a r e1 e2)⟩
theorem TA.pa {K : PySem.W.Frag} {H : Hp} {as : List Addr} {Ps : List (List Int)} (h : TA H as Ps) : PA K H as Ps := ⟨h.1, fun i a r e1 e2 => SqT.of (h.2 i a r e1 e2)⟩
theorem TPts.same {H H' : Hp} {p : Addr} {Ps : List (List Int)} (s : Same H H') (h : TPts H p Ps) : TPts H' p Ps := by
  obtain ⟨as, e, h⟩ := h
  exact ⟨as, s _ _ e, h.same s⟩
theorem TPts.pts {K : PySem.W.Frag} {H : Hp} {p : Addr} {Ps : List (List Int)} (h : TPts H p Ps) : Pts K H p Ps := by
  obtain ⟨as, e, h⟩ := h
  exact h.pa.pts e
theorem TPts.pa {H : Hp} {p : Addr} {Ps : List (List Int)} (h : TPts H p Ps) : ∃ as, H p = some (.lst (as.map V.ref)) ∧ TA H as Ps := h
theorem TPts.nil {H : Hp} {p : Addr} (e : H p = some (.lst [])) : TPts H p [] := ⟨[], e, rfl, fun i a r e1 => by simp at e1⟩
theorem TPts.push {G F : Hp} {L z : Addr} {as : List Addr} {Ps : List (List Int)} {r : List Int} (h : TA G as Ps) (s : Same G F) (e : F L = some (.lst (as.map V.ref))) (hz : F z = some (.tup (r.map V.int))) : TPts (upd F L (.lst (as.map V.ref ++ [.ref z]))) L (Ps ++ [r]) := by
  have ne : ∀ {x : Addr} {xs : List V}, F x = some (.tup xs) → x ≠ L := fun h q => by rw [q, e] at h; cases h
  refine ⟨as ++ [z], by rw [List.map_append]; exact upd_same, by rw [List.length_append, List.length_append, h.1]; rfl, fun i a q e1 e2 => ?_⟩
  by_cases hi : i < as.length
  · rw [List.getElem?_append_left hi] at e1
    rw [List.getElem?_append_left (by rw [← h.1]; exact hi)] at e2
    have := s _ _ (h.2 i a q e1 e2)
    rw [upd_ne (ne this)]
    exact this
  · have e0 : i - as.length = 0 := by
      rw [List.getElem?_append_right (by omega)] at e1
      have := (List.getElem?_eq_some_iff.mp e1).1
      simp at this
      omega
    rw [List.getElem?_append_right (by omega), e0] at e1
    rw [List.getElem?_append_right (by rw [← h.1]; omega), ← h.1, e0] at e2
    cases e1
    cases e2
    rw [upd_ne (ne hz)]
    exact hz
theorem catT {K : PySem.W.Frag} {H : Hp} {t a : Addr} {xs ys : List V} {Q : VK} (h1 : H t = some (.tup xs)) (h2 : H a = some (.tup ys)) (hz : xs.length + ys.length ≤ 1000) (q : ∀ z H', Same H H' → H' z = some (.tup (xs ++ ys)) → Q (.ref z) H') : rCatA K (.ref t) (.ref a) H Q := by
  refine ⟨t, a, xs, ys, rfl, rfl, SqT.of h1, SqT.of h2, Nat.le_of_lt (small1000 hz), fun e => ?_, fun _ e => ?_, fun _ _ p hp => ?_⟩
  · subst e
    exact q a H (Same.refl H) h2
  · subst e
    exact q t H (Same.refl H) (by rw [List.append_nil]; exact h1)
  · exact q p _ (Same.new hp _) upd_same
theorem TA.stp {a : Addr} {H H' : Hp} {as : List Addr} {Ps : List (List Int)} (s : Stp a H H') (hs : Src H a) (h : TA H as Ps) : TA H' as Ps := ⟨h.1, fun i b r e1 e2 => s.k _ _ (fun z => by
  obtain ⟨x, y, z2, e⟩ := hs
  have := h.2 i b r e1 e2
  rw [z, e] at this
  cases this) (h.2 i b r e1 e2)⟩
theorem TPts.stp {a p : Addr} {H H' : Hp} {Ps : List (List Int)} (s : Stp a H H') (hs : Src H a) (ne : p ≠ a) (h : TPts H p Ps) : TPts H' p Ps := by
  obtain ⟨as, e, h⟩ := h
  exact ⟨as, s.k _ _ ne e, h.stp s hs⟩
theorem Mx.stp2 {K : PySem.W.Frag} {a p : Addr} {H H' : Hp} {M : List (List Int)} (s : Stp a H H') (hs : Src H a) (h : Mx true true K H p M) : Mx true true K H' p M := by
  obtain ⟨as, h1, h2, h3⟩ := h
  exact ⟨as, s.rd h1 hs, h2, fun i b r e1 e2 => s.rd (h3 i b r e1 e2) hs⟩
/-! ### the spread of a form over points -/
/-- the least and the greatest of what one column less another is -/
def DMM (cs : List Int) (lo hi : Int) (Ps : List (List Int)) (L G : Int) : Prop := ((∃ p ∈ Ps, L = lo + val cs p) ∧ ∀ p ∈ Ps, L ≤ lo + val cs p) ∧ ((∃ p ∈ Ps, G = hi + val cs p) ∧ ∀ p ∈ Ps, hi + val cs p ≤ G)
theorem val_D {cs : List Int} (d : IsD cs) {k1 k2 : Nat} (m1 : k1 ∈ usedZ cs) (m2 : k2 ∈ usedZ cs) (c1 : cs.getD k1 0 = 1) (c2 : cs.getD k2 0 = -1) (p : List Int) : val cs p = p.getD k1 0 - p.getD k2 0 := by
  obtain ⟨a, b, e, la, lb, nab, alt⟩ := isD_used d
  rw [e] at m1 m2
  simp only [List.mem_cons, List.not_mem_nil, or_false] at m1 m2
  rcases alt with ⟨e1, e2⟩ | ⟨e1, e2⟩
  · have h1 : k1 = a := by
      rcases m1 with h | h
      · exact h
      · rw [h] at c1; omega
    have h2 : k2 = b := by
      rcases m2 with h | h
      · rw [h] at c2; omega
      · exact h
    subst h1
    subst h2
    have := (diffAt_of e la lb e1 e2).1.2.2.2.2 p
    exact this
  · have h1 : k1 = b := by
      rcases m1 with h | h
      · rw [h] at c1; omega
      · exact h
    have h2 : k2 = a := by
      rcases m2 with h | h
      · exact h
      · rw [h] at c2; omega
    subst h1
    subst h2
    have := (diffAt_of' e la lb e1 e2).2.2.2.2 p
    exact this
def spSpread (K : PySem.W.Frag) : Sp := fun vs H Q _ => ∃ (f p : Addr) (cs : List Int) (lo hi : Int) (Ps : List (List Int)), vs = [.ref f, .ref p] ∧ FormAt K H f cs lo hi ∧ PtB Ps ∧ cs.length ≤ 20 ∧ TPts H p Ps ∧ Ps ≠ [] ∧ Ps.length ≤ 1000 ∧ (∀ r ∈ Ps, r.length = cs.length) ∧
  ∀ t H' L G, Same H H' → H' t = some (.tup [.int L, .int G]) → (¬ IsD cs → L = spanLo (hullM cs.length Ps) cs lo ∧ G = spanHi (hullM cs.length Ps) cs hi) → (IsD cs → DMM cs lo hi Ps L G) → Q (.ref t) H'
theorem isD_ends {cs : List Int} : IsD cs ↔ numL cs = [1, -1] ∨ numL cs = [-1, 1] := by
  constructor
  · intro h
    obtain ⟨a, b, e, _, _, _, alt⟩ := isD_used h
    unfold numL
    rw [e]
    rcases alt with ⟨e1, e2⟩ | ⟨e1, e2⟩
    · left
      show [cs.getD a 0, cs.getD b 0] = _
      rw [e1, e2]
    · right
      show [cs.getD a 0, cs.getD b 0] = _
      rw [e1, e2]
  · rintro (h | h)
    · unfold IsD
      rw [h]
      exact List.Perm.swap _ _ _
    · unfold IsD
      rw [h]
theorem tmin_is {n k : Nat} {c m : Int} {Ps : List (List Int)} (ne : Ps ≠ []) (hk : k < n) (h1 : m ∈ Ps.map fun r => c * r.getD k 0) (h2 : ∀ y ∈ Ps.map (fun r => c * r.getD k 0), m ≤ y) : m = tmin (hullM n Ps) c k := by
  obtain ⟨r1, hr1, e1⟩ := hull_at (n := n) (Ps := Ps) ne (show 0 < n + 1 by omega) (show k + 1 < n + 1 by omega)
  obtain ⟨r2, hr2, e2⟩ := hull_at (n := n) (Ps := Ps) ne (show k + 1 < n + 1 by omega) (show 0 < n + 1 by omega)
  have e1' : 0 - r1.getD k 0 = getM (hullM n Ps) 0 (k + 1) := e1
  have e2' : r2.getD k 0 - 0 = getM (hullM n Ps) (k + 1) 0 := e2
  have g1 := h2 _ (List.mem_map.mpr ⟨r1, hr1, rfl⟩)
  have g2 := h2 _ (List.mem_map.mpr ⟨r2, hr2, rfl⟩)
  obtain ⟨r, hr, e⟩ := List.mem_map.mp h1
  have d1 : dif 0 (k + 1) r ≤ getM (hullM n Ps) 0 (k + 1) := hull_le (by omega) (by omega) hr
  have d2 : dif (k + 1) 0 r ≤ getM (hullM n Ps) (k + 1) 0 := hull_le (by omega) (by omega) hr
  have d1' : 0 - r.getD k 0 ≤ getM (hullM n Ps) 0 (k + 1) := d1
  have d2' : r.getD k 0 - 0 ≤ getM (hullM n Ps) (k + 1) 0 := d2
  unfold tmin
  rw [show -(getM (hullM n Ps) 0 (k + 1)) = r1.getD k 0 by omega, show getM (hullM n Ps) (k + 1) 0 = r2.getD k 0 by omega]
  by_cases c0 : 0 ≤ c
  · have := Int.mul_le_mul_of_nonneg_left (show r1.getD k 0 ≤ r.getD k 0 by omega) c0
    omega
  · have := Int.mul_le_mul_of_nonpos_left (show c ≤ 0 by omega) (show r.getD k 0 ≤ r2.getD k 0 by omega)
    omega
theorem tmax_is {n k : Nat} {c m : Int} {Ps : List (List Int)} (ne : Ps ≠ []) (hk : k < n) (h1 : m ∈ Ps.map fun r => c * r.getD k 0) (h2 : ∀ y ∈ Ps.map (fun r => c * r.getD k 0), y ≤ m) : m = tmax (hullM n Ps) c k := by
  obtain ⟨r1, hr1, e1⟩ := hull_at (n := n) (Ps := Ps) ne (show 0 < n + 1 by omega) (show k + 1 < n + 1 by omega)
  obtain ⟨r2, hr2, e2⟩ := hull_at (n := n) (Ps := Ps) ne (show k + 1 < n + 1 by omega) (show 0 < n + 1 by omega)
  have e1' : 0 - r1.getD k 0 = getM (hullM n Ps) 0 (k + 1) := e1
  have e2' : r2.getD k 0 - 0 = getM (hullM n Ps) (k + 1) 0 := e2
  have g1 := h2 _ (List.mem_map.mpr ⟨r1, hr1, rfl⟩)
  have g2 := h2 _ (List.mem_map.mpr ⟨r2, hr2, rfl⟩)
  obtain ⟨r, hr, e⟩ := List.mem_map.mp h1
  have d1 : dif 0 (k + 1) r ≤ getM (hullM n Ps) 0 (k + 1) := hull_le (by omega) (by omega) hr
  have d2 : dif (k + 1) 0 r ≤ getM (hullM n Ps) (k + 1) 0 := hull_le (by omega) (by omega) hr
  have d1' : 0 - r.getD k 0 ≤ getM (hullM n Ps) 0 (k + 1) := d1
  have d2' : r.getD k 0 - 0 ≤ getM (hullM n Ps) (k + 1) 0 := d2
  unfold tmax
  rw [show -(getM (hullM n Ps) 0 (k + 1)) = r1.getD k 0 by omega, show getM (hullM n Ps) (k + 1) 0 = r2.getD k 0 by omega]
  by_cases c0 : 0 ≤ c
  · have := Int.mul_le_mul_of_nonneg_left (show r.getD k 0 ≤ r2.getD k 0 by omega) c0
    omega
  · have := Int.mul_le_mul_of_nonpos_left (show c ≤ 0 by omega) (show r1.getD k 0 ≤ r.getD k 0 by omega)
    omega
theorem flatI (xs : List Int) : (xs.map V.int).all flatV = true := by
  induction xs with
  | nil => rfl
  | cons x xs ih => rw [List.map_cons, List.all_cons, ih]; rfl
theorem coef0 {cs : List Int} {k : Nat} (h : k < cs.length) : atI (cs.map V.int) (k : Int) = some (.int (cs.getD k 0)) := atI_nat (map_get (by rw [List.getD_eq_getElem?_getD, List.getElem?_eq_getElem h]; rfl))
section
variable {P : Program} {w : World} {K : PySem.W.Frag} {mg : Str → Option Value} {base : Heap}
theorem ok_l_spread (T : Txt w K mg) : FnOk P w K mg base CX0 1 T.a_l_spread T.d_l_spread p_l_spread (spSpread K) := by
  refine T.F_l_spread.ok sc_l_spread (fun vs H Q E h => ?_) (fun cdv A outer s H vs Q E hr h => ?_)
  · obtain ⟨f, p, cs, lo, hi, Ps, rfl, _⟩ := h
    rfl
  obtain ⟨f, p, cs, lo, hi, Ps, rfl, ⟨c, hf, hc⟩, pb, lc, tP, ne, lP, lr, q⟩ := h
  refine ⟨_, (pss_cons (ps_setLc (i := 2) (own := [("_law_k", 3)]) (g := gName 3) rfl sc_l_spread.nd rfl rfl (sw_true rfl rfl rfl (by decide +kernel)) (pi_range1 rfl T.z_range (pa_cons (pe_callB call_len_seq rfl T.z_len PySem.boot_len (pa_cons (pe_ix ix_tup (pv 0) pe_int (fun _ _ => rfl)) pa_nil)) pa_nil)) (blkOk_by (own := [("_law_k", 3)]) (N := n_l_spread) (sc := defScope s_l_spread) (by decide +kernel)) (fun _ _ _ _ _ => (pg_name (i := 3) sc_l_spread.nd rfl (Or.inl rfl))) (fun _ _ _ _ _ => (pts_one (pt_cmpR op_ne (pe_ix (show IxR _ (rIxT K) from ix_tup) (pe_ix (show IxR _ (rIxT K) from ix_tup) (pv 0) pe_int (fun _ _ => rfl)) (pv 3) (fun _ _ => rfl)) pe_int (nomark _)))) (fun _ _ _ _ _ => (pv 3)))
      (pss_cons (ps_setLc (i := 4) (own := [("_law_k", 3)]) (g := gName 3) (tt := tYes) rfl sc_l_spread.nd rfl rfl (sw_true rfl rfl rfl (by decide +kernel)) (pi_list (pv 2)) (blkOk_by (own := [("_law_k", 3)]) (N := n_l_spread) (sc := defScope s_l_spread) (by decide +kernel)) (fun _ _ _ _ _ => (pg_name (i := 3) sc_l_spread.nd rfl (Or.inl rfl))) (fun _ _ _ _ _ => pts_nil) (fun _ _ _ _ _ => (pe_ix (show IxR _ (rIxT K) from ix_tup) (pe_ix (show IxR _ (rIxT K) from ix_tup) (pv 0) pe_int (fun _ _ => rfl)) (pv 3) (fun _ _ => rfl))))
      (pss_cons (ps_if (PW.pt (pw_or (pt_cmpR (op_eqD hr.units) (pv 4) (pe_lst (pa_cons pe_int (pa_cons (pe_un un_neg pe_int) pa_nil))) (nomark _)) (pw_or1 (pt_cmpR (op_eqD hr.units) (pv 4) (pe_lst (pa_cons (pe_un un_neg pe_int) (pa_cons pe_int pa_nil))) (nomark _))))) (pss_cons (ps_set (i := 5) sc_l_spread.nd rfl (Or.inr rfl) (pe_ix ix_list (pv 2) (pe_bm PySem.F.plainAttrs_list PySem.F.slot_list_index PySem.F.type_list_index mt_index (pv 4) (pa_cons pe_int pa_nil)) (fun _ _ => rfl)))
      (pss_cons (ps_set (i := 6) sc_l_spread.nd rfl (Or.inr rfl) (pe_ix ix_list (pv 2) (pe_bm PySem.F.plainAttrs_list PySem.F.slot_list_index PySem.F.type_list_index mt_index (pv 4) (pa_cons (pe_un un_neg pe_int) pa_nil)) (fun _ _ => rfl)))
      (pss_cons (ps_setLc (i := 7) (own := [("_law_point", 8)]) (g := gName 8) (tt := tYes) rfl sc_l_spread.nd rfl rfl (sw_true rfl rfl rfl (by decide +kernel)) (pi_list (pv 1)) (blkOk_by (own := [("_law_point", 8)]) (N := n_l_spread) (sc := defScope s_l_spread) (by decide +kernel)) (fun _ _ _ _ _ => (pg_name (i := 8) sc_l_spread.nd rfl (Or.inl rfl))) (fun _ _ _ _ _ => pts_nil) (fun _ _ _ _ _ => (pe_op op_sub (pe_ix (show IxR _ (rIxT K) from ix_tup) (pv 8) (pv 5) (fun _ _ => rfl)) (pe_ix (show IxR _ (rIxT K) from ix_tup) (pv 8) (pv 6) (fun _ _ => rfl)))))
      (pss_one (ps_ret (pe_tup (pa_cons (pe_op op_add (pe_ix ix_tup (pv 0) pe_int (fun _ _ => rfl)) (pe_callB (cr_min rfl) rfl T.z_min bb_min (pa_cons (pv 7) pa_nil))) (pa_cons (pe_op op_add (pe_ix ix_tup (pv 0) pe_int (fun _ _ => rfl)) (pe_callB (cr_max rfl) rfl T.z_max bb_max (pa_cons (pv 7) pa_nil))) pa_nil)))))))) pss_nil)
      (pss_cons (ps_set (i := 9) sc_l_spread.nd rfl (Or.inl rfl) (pe_ix ix_tup (pv 0) pe_int (fun _ _ => rfl)))
      (pss_cons (ps_set (i := 10) sc_l_spread.nd rfl (Or.inl rfl) (pe_ix ix_tup (pv 0) pe_int (fun _ _ => rfl)))
      (pss_cons (ps_for PassesOwn.never rfl (pi_list (pv 2)) (pg_name (i := 3) sc_l_spread.nd rfl (Or.inr rfl))
        (pss_cons (ps_setLc (i := 7) (own := [("_law_point", 8)]) (g := gName 8) (tt := tYes) rfl sc_l_spread.nd rfl rfl (sw_true rfl rfl rfl (by decide +kernel)) (pi_list (pv 1)) (blkOk_by (own := [("_law_point", 8)]) (N := n_l_spread) (sc := defScope s_l_spread) (by decide +kernel)) (fun _ _ _ _ _ => (pg_name (i := 8) sc_l_spread.nd rfl (Or.inl rfl))) (fun _ _ _ _ _ => pts_nil) (fun _ _ _ _ _ => (pe_op op_mul (pe_ix (show IxR _ (rIxT K) from ix_tup) (pe_ix (show IxR _ (rIxT K) from ix_tup) (pv 0) pe_int (fun _ _ => rfl)) (pv 3) (fun _ _ => rfl)) (pe_ix (show IxR _ (rIxT K) from ix_tup) (pv 8) (pv 3) (fun _ _ => rfl)))))
      (pss_cons (ps_set (i := 9) sc_l_spread.nd rfl (Or.inl rfl) (pe_op op_add (pv 9) (pe_callB (cr_min rfl) rfl T.z_min bb_min (pa_cons (pv 7) pa_nil))))
      (pss_one (ps_set (i := 10) sc_l_spread.nd rfl (Or.inl rfl) (pe_op op_add (pv 10) (pe_callB (cr_max rfl) rfl T.z_max bb_max (pa_cons (pv 7) pa_nil))))))))
      (pss_one (ps_ret (pe_tup (pa_cons (pv 9) (pa_cons (pv 10) pa_nil))))))))))), ?_⟩
  obtain ⟨as, eP, hA⟩ := id tP
  refine ⟨_, rfl, f, _, _, _, rfl, rfl, hf, rfl, c, _, rfl, .inr hc, _, rfl, by omega, by rw [List.length_map]; omega, fun D hD => ?_⟩
  refine lc_it walk_range (fun i G => Same H G ∧ G D = some (.lst (natsV (usedTo cs i)))) ⟨Same.new hD _, upd_same⟩ (fun _ _ _ _ => trivial) ?_ ?_
  · rintro i x G G' hi2 P ⟨rfl, rfl⟩
    rw [List.length_map] at hi2
    have hi3 : i < cs.length := by omega
    refine ⟨rfl, ?_⟩
    refine ⟨_, rfl, f, _, _, _, rfl, rfl, Same.tup P.1 hf, rfl, _, rfl, c, _, _, _, rfl, rfl, Same.tup P.1 hc, (by rw [Int.zero_add]; exact coef0 hi3), rfl, _, rfl, ite2 (fun h => ?_) (fun h => ?_)⟩
    · have nz : cs.getD i 0 ≠ 0 := fun z => by
        rw [z] at h
        exact absurd h (by decide)
      refine ⟨_, rfl, _, P.2, lt_line (by simp only [natsV, List.length_map]; have := usedTo_len (cs := cs) (i := i); omega), fun b o e => ?_, ?_⟩
      · rw [upd_ne (ne_of_none e hD)]
        exact P.1 _ _ e
      · rw [usedTo_yes nz]
        simp only [natsV, List.map_append, Int.zero_add]
        exact upd_same
    · have z : cs.getD i 0 = 0 := by
        by_cases z : cs.getD i 0 = 0
        · exact z
        · exact absurd (by rw [decide_eq_false (fun e => z (V.int.inj e))]; rfl) h
      rw [usedTo_no z]
      exact P
  rintro G ⟨sG, eD⟩
  rw [show (((cs.map V.int).length : Nat) : Int).toNat = cs.length by simp, usedTo_all] at eD
  have lz := usedZ_len (cs := cs)
  have lnz : (natsV (usedZ cs)).length = (usedZ cs).length := by simp [natsV]
  have getZ : ∀ {j k : Nat}, (usedZ cs)[j]? = some k → (natsV (usedZ cs))[j]? = some (.int (k : Int)) := fun e => by
    unfold natsV
    exact map_get e
  refine ⟨_, rfl, D, rfl, ⟨_, SqL.of eD⟩, fun D2 hD2 => ?_⟩
  refine lc_it (walk_list (xs := natsV (usedZ cs))) (LcP (Same G) (RInt (numL cs)) D2) (lcp_start hD2) (fun i G2 _ P => SqL.of (P.1 _ _ eD)) ?_ ?_
  · rintro j x F F' hj P ⟨rfl, ex⟩
    rw [lnz] at hj
    have ek : (usedZ cs)[j]? = some (usedZ cs)[j] := List.getElem?_eq_getElem hj
    have mk := mem_usedZ.mp (List.getElem_mem hj)
    generalize (usedZ cs)[j] = k at ek mk
    rw [getZ ek] at ex
    obtain rfl := Option.some.inj ex
    refine ⟨rfl, tyes ?_⟩
    refine ⟨_, rfl, f, _, _, _, rfl, rfl, Same.tup (sG.trans P.1) hf, rfl, _, rfl, c, _, _, _, rfl, rfl, Same.tup (sG.trans P.1) hc, coef0 mk.1, ?_⟩
    exact lcp_same P hD2 (Same.refl _) (lt_line (by omega)) RInt.mono ⟨_, map_get ek, rfl⟩
  intro F P
  have eE := lcp_ints (K := K) P (by rw [lnz]; simp [numL])
  have sF := sG.trans P.1
  have eU := P.1 _ _ eD
  have tPF := tP.same sF
  obtain ⟨_, ePF, hAF⟩ : ∃ _ : Unit, F p = some (.lst (as.map V.ref)) ∧ TA F as Ps := ⟨(), sF _ _ eP, hA.same sF⟩
  have dcase : IsD cs → ∀ v : Int, v = 1 ∨ v = -1 → ∃ j k : Nat, (numL cs)[j]? = some v ∧ (∀ (m : Nat) (z : Int), m < j → (numL cs)[m]? = some z → z ≠ v) ∧ (usedZ cs)[j]? = some k ∧ k < cs.length ∧ cs.getD k 0 = v := fun d v hv => by
    obtain ⟨a, b, e, la, lb, _, alt⟩ := isD_used d
    have en : numL cs = [cs.getD a 0, cs.getD b 0] := by
      unfold numL
      rw [e]
      rfl
    by_cases z : cs.getD a 0 = v
    · exact ⟨0, a, by rw [en, z]; rfl, fun m z h => absurd h (Nat.not_lt_zero m), by rw [e]; rfl, la, z⟩
    · refine ⟨1, b, ?_, fun m z' h e' => ?_, by rw [e]; rfl, lb, by omega⟩
      · rw [en]
        show some (cs.getD b 0) = some v
        congr 1
        omega
      · have m0 : m = 0 := by omega
        rw [m0, en] at e'
        cases e'
        exact z
  have nd : ∀ {L G : Int}, IsD cs → ¬ IsD cs → L = spanLo (hullM cs.length Ps) cs lo ∧ G = spanHi (hullM cs.length Ps) cs hi := fun d n => absurd d n
  refine ⟨_, rfl, _, rfl, (by show 2 ≤ sizeLine; decide), fun l1 hl1 => ?_⟩
  have sl1 := Same.new hl1 (.lst [.int 1, .int (-1)])
  refine eqI (ys := [1, -1]) (SqL.of (sl1 _ _ eE)) (SqL.of upd_same) ⟨_, rfl, ite2 (fun h1 => ifT rfl ?D1) (fun h1 => ?E1)⟩
  case D1 =>
      have d : IsD cs := isD_ends.mpr (.inl (of_decide_eq_true h1))
      have s2 := sl1
      obtain ⟨j1, k1, n1, m1, u1, lk1, co1⟩ := dcase d 1 (.inl rfl)
      obtain ⟨j2, k2, n2, m2, u2, lk2, co2⟩ := dcase d (-1) (.inr rfl)
      have vD := val_D d (List.mem_of_getElem? u1) (List.mem_of_getElem? u2) co1 co2
      have eE2 := s2 _ _ eE
      have eU2 := s2 _ _ eU
      have eP2 := s2 _ _ ePF
      have hA2 := hAF.same s2
      have sH2 := sF.trans s2
      refine ⟨_, rfl, _, rfl, .inl ⟨rfl, _, SqL.of eE2⟩, D2, _, .int 1, j1, .int 1, rfl, rfl, SqL.of eE2, rfl, flatI _, map_get n1, rfl, fun m z' hm e => ?_, D, _, _, _, rfl, rfl, SqL.of eU2, atI_nat (getZ u1), ?_⟩
      · obtain ⟨z, ez, rfl⟩ := get_int e
        have := m1 m z hm ez
        show (z == (1 : Int)) = false
        simpa using this
      refine ⟨_, rfl, _, rfl, .inl ⟨rfl, _, SqL.of eE2⟩, _, rfl, D2, _, .int (-1), j2, .int (-1), rfl, rfl, SqL.of eE2, rfl, flatI _, map_get n2, rfl, fun m z' hm e => ?_, D, _, _, _, rfl, rfl, SqL.of eU2, atI_nat (getZ u2), ?_⟩
      · obtain ⟨z, ez, rfl⟩ := get_int e
        have := m2 m z hm ez
        show (z == (-1 : Int)) = false
        simpa using this
      refine ⟨_, rfl, p, rfl, ⟨_, SqL.of eP2⟩, fun D3 hD3 => ?_⟩
      refine lc_it (walk_list (xs := as.map V.ref)) (LcP (Same _) (RInt (Ps.map fun r => r.getD k1 0 - r.getD k2 0)) D3) (lcp_start hD3) (fun i G2 _ P => SqL.of (P.1 _ _ eP2)) ?_ ?_
      · rintro j x F1 F' hj P3 ⟨rfl, ex⟩
        rw [List.length_map, hA2.1] at hj
        have er : Ps[j]? = some Ps[j] := List.getElem?_eq_getElem hj
        have lq := lr _ (List.getElem_mem hj)
        generalize Ps[j] = r at er lq
        have ea : as[j]? = some (as[j]'(by rw [hA2.1]; exact hj)) := List.getElem?_eq_getElem _
        generalize as[j]'(by rw [hA2.1]; exact hj) = tq at ea
        rw [map_get ea] at ex
        obtain rfl := Option.some.inj ex
        have htq := P3.1 _ _ (hA2.2 j tq r ea er)
        refine ⟨rfl, tyes ?_⟩
        refine ⟨_, rfl, _, rfl, tq, _, _, _, rfl, rfl, SqT.of htq, coef0 (by omega), _, rfl, _, rfl, tq, _, _, _, rfl, rfl, SqT.of htq, coef0 (by omega), _, _, rfl, rfl, ?_⟩
        exact lcp_same P3 hD3 (Same.refl _) (lt_line (by omega)) RInt.mono ⟨_, map_get er, rfl⟩
      · intro F3 P3
        have ei := lcp_ints (K := K) P3 (by rw [List.length_map, List.length_map, hA2.1])
        have pos : 0 < (Ps.map fun r => r.getD k1 0 - r.getD k2 0).length := by
          rw [List.length_map]
          exact List.length_pos_iff.mpr ne
        have s3 := sH2.trans P3.1
        refine ⟨_, rfl, f, _, _, _, rfl, rfl, Same.tup s3 hf, rfl, _, rfl, D3, _, rfl, SqL.of ei, pos, fun m hm hx => ⟨_, _, rfl, rfl, ?_⟩⟩
        refine ⟨_, rfl, f, _, _, _, rfl, rfl, Same.tup s3 hf, rfl, _, rfl, D3, _, rfl, SqL.of ei, pos, fun m' hm' hx' => ⟨_, _, rfl, rfl, (by show 2 ≤ sizeLine; decide), fun t ht => ?_⟩⟩
        refine q t _ _ _ (s3.trans (Same.new ht _)) upd_same (nd d) fun _ => ⟨⟨?_, fun p hp => ?_⟩, ⟨?_, fun p hp => ?_⟩⟩
        · obtain ⟨p, hp, e⟩ := List.mem_map.mp hm
          exact ⟨p, hp, by rw [vD, e]⟩
        · have := hx _ (List.mem_map.mpr ⟨p, hp, rfl⟩)
          rw [vD]
          omega
        · obtain ⟨p, hp, e⟩ := List.mem_map.mp hm'
          exact ⟨p, hp, by rw [vD, e]⟩
        · have := hx' _ (List.mem_map.mpr ⟨p, hp, rfl⟩)
          rw [vD]
          omega
  case E1 =>
    refine ⟨_, rfl, _, rfl, (by show 2 ≤ sizeLine; decide), fun l2 hl2 => ?_⟩
    have sl2 := sl1.trans (Same.new hl2 (.lst [.int (-1), .int 1]))
    refine eqI (ys := [-1, 1]) (SqL.of (sl2 _ _ eE)) (SqL.of upd_same) ⟨_, rfl, ite2 (fun h2 => ?D2) (fun h2 => ?N)⟩
    case D2 =>
      have d : IsD cs := isD_ends.mpr (.inr (of_decide_eq_true h2))
      have s2 := sl2
      obtain ⟨j1, k1, n1, m1, u1, lk1, co1⟩ := dcase d 1 (.inl rfl)
      obtain ⟨j2, k2, n2, m2, u2, lk2, co2⟩ := dcase d (-1) (.inr rfl)
      have vD := val_D d (List.mem_of_getElem? u1) (List.mem_of_getElem? u2) co1 co2
      have eE2 := s2 _ _ eE
      have eU2 := s2 _ _ eU
      have eP2 := s2 _ _ ePF
      have hA2 := hAF.same s2
      have sH2 := sF.trans s2
      refine ⟨_, rfl, _, rfl, .inl ⟨rfl, _, SqL.of eE2⟩, D2, _, .int 1, j1, .int 1, rfl, rfl, SqL.of eE2, rfl, flatI _, map_get n1, rfl, fun m z' hm e => ?_, D, _, _, _, rfl, rfl, SqL.of eU2, atI_nat (getZ u1), ?_⟩
      · obtain ⟨z, ez, rfl⟩ := get_int e
        have := m1 m z hm ez
        show (z == (1 : Int)) = false
        simpa using this
      refine ⟨_, rfl, _, rfl, .inl ⟨rfl, _, SqL.of eE2⟩, _, rfl, D2, _, .int (-1), j2, .int (-1), rfl, rfl, SqL.of eE2, rfl, flatI _, map_get n2, rfl, fun m z' hm e => ?_, D, _, _, _, rfl, rfl, SqL.of eU2, atI_nat (getZ u2), ?_⟩
      · obtain ⟨z, ez, rfl⟩ := get_int e
        have := m2 m z hm ez
        show (z == (-1 : Int)) = false
        simpa using this
      refine ⟨_, rfl, p, rfl, ⟨_, SqL.of eP2⟩, fun D3 hD3 => ?_⟩
      refine lc_it (walk_list (xs := as.map V.ref)) (LcP (Same _) (RInt (Ps.map fun r => r.getD k1 0 - r.getD k2 0)) D3) (lcp_start hD3) (fun i G2 _ P => SqL.of (P.1 _ _ eP2)) ?_ ?_
      · rintro j x F1 F' hj P3 ⟨rfl, ex⟩
        rw [List.length_map, hA2.1] at hj
        have er : Ps[j]? = some Ps[j] := List.getElem?_eq_getElem hj
        have lq := lr _ (List.getElem_mem hj)
        generalize Ps[j] = r at er lq
        have ea : as[j]? = some (as[j]'(by rw [hA2.1]; exact hj)) := List.getElem?_eq_getElem _
        generalize as[j]'(by rw [hA2.1]; exact hj) = tq at ea
        rw [map_get ea] at ex
        obtain rfl := Option.some.inj ex
        have htq := P3.1 _ _ (hA2.2 j tq r ea er)
        refine ⟨rfl, tyes ?_⟩
        refine ⟨_, rfl, _, rfl, tq, _, _, _, rfl, rfl, SqT.of htq, coef0 (by omega), _, rfl, _, rfl, tq, _, _, _, rfl, rfl, SqT.of htq, coef0 (by omega), _, _, rfl, rfl, ?_⟩
        exact lcp_same P3 hD3 (Same.refl _) (lt_line (by omega)) RInt.mono ⟨_, map_get er, rfl⟩
      · intro F3 P3
        have ei := lcp_ints (K := K) P3 (by rw [List.length_map, List.length_map, hA2.1])
        have pos : 0 < (Ps.map fun r => r.getD k1 0 - r.getD k2 0).length := by
          rw [List.length_map]
          exact List.length_pos_iff.mpr ne
        have s3 := sH2.trans P3.1
        refine ⟨_, rfl, f, _, _, _, rfl, rfl, Same.tup s3 hf, rfl, _, rfl, D3, _, rfl, SqL.of ei, pos, fun m hm hx => ⟨_, _, rfl, rfl, ?_⟩⟩
        refine ⟨_, rfl, f, _, _, _, rfl, rfl, Same.tup s3 hf, rfl, _, rfl, D3, _, rfl, SqL.of ei, pos, fun m' hm' hx' => ⟨_, _, rfl, rfl, (by show 2 ≤ sizeLine; decide), fun t ht => ?_⟩⟩
        refine q t _ _ _ (s3.trans (Same.new ht _)) upd_same (nd d) fun _ => ⟨⟨?_, fun p hp => ?_⟩, ⟨?_, fun p hp => ?_⟩⟩
        · obtain ⟨p, hp, e⟩ := List.mem_map.mp hm
          exact ⟨p, hp, by rw [vD, e]⟩
        · have := hx _ (List.mem_map.mpr ⟨p, hp, rfl⟩)
          rw [vD]
          omega
        · obtain ⟨p, hp, e⟩ := List.mem_map.mp hm'
          exact ⟨p, hp, by rw [vD, e]⟩
        · have := hx' _ (List.mem_map.mpr ⟨p, hp, rfl⟩)
          rw [vD]
          omega
    case N =>
      have nD : ¬ IsD cs := fun d => by
        rcases isD_ends.mp d with z | z
        · exact h1 (decide_eq_true z)
        · exact h2 (decide_eq_true z)
      have s2 := sl2
      have eE2 := s2 _ _ eE
      have eU2 := s2 _ _ eU
      have eP2 := s2 _ _ ePF
      have hA2 := hAF.same s2
      have sH2 := sF.trans s2
      refine ⟨_, rfl, f, _, _, _, rfl, rfl, Same.tup sH2 hf, rfl, ?_⟩
      refine ⟨_, rfl, f, _, _, _, rfl, rfl, Same.tup sH2 hf, rfl, ?_⟩
      refine ⟨_, rfl, D, rfl, ⟨_, SqL.of eU2⟩, ?_⟩
      refine for_it (walk_list (xs := natsV (usedZ cs))) (fun i σ F4 => (∃ x3 x7 : Option V, σ = [some (.ref f), some (.ref p), some (.ref D), x3, some (.ref D2), none, none, x7, none, some (.int (lo + (((usedZ cs).take i).map fun k => tmin (hullM cs.length Ps) (cs.getD k 0) k).sum)), some (.int (hi + (((usedZ cs).take i).map fun k => tmax (hullM cs.length Ps) (cs.getD k 0) k).sum))]) ∧ Same F F4)
        ⟨⟨none, none, by rw [List.take_zero]; show _ = [_, _, _, _, _, _, _, _, _, some (V.int (lo + 0)), some (V.int (hi + 0))]; rw [Int.add_zero, Int.add_zero]; rfl⟩, s2⟩ (fun j σ F4 _ P => SqL.of (P.2 _ _ eU)) ?_ ?_
      · rintro i x σ F0 F4 hi2 ⟨⟨x3, x7, rfl⟩, sF4⟩ ⟨rfl, ex⟩
        rw [lnz] at hi2
        have ek : (usedZ cs)[i]? = some (usedZ cs)[i] := List.getElem?_eq_getElem hi2
        have mk := mem_usedZ.mp (List.getElem_mem hi2)
        generalize (usedZ cs)[i] = k at ek mk
        rw [getZ ek] at ex
        obtain rfl := Option.some.inj ex
        have eP4 := sF4 _ _ ePF
        have hA4 := hAF.same sF4
        have sH4 := sF.trans sF4
        refine ⟨_, rfl, p, rfl, ⟨_, SqL.of eP4⟩, fun D3 hD3 => ?_⟩
        refine lc_it (walk_list (xs := as.map V.ref)) (LcP (Same F4) (RInt (Ps.map fun r => cs.getD k 0 * r.getD k 0)) D3) (lcp_start hD3) (fun i G2 _ P => SqL.of (P.1 _ _ eP4)) ?_ ?_
        · rintro j x F1 F' hj P3 ⟨rfl, ex⟩
          rw [List.length_map, hA4.1] at hj
          have er : Ps[j]? = some Ps[j] := List.getElem?_eq_getElem hj
          have lq := lr _ (List.getElem_mem hj)
          have mr := List.getElem_mem hj
          generalize Ps[j] = r at er lq mr
          have ea : as[j]? = some (as[j]'(by rw [hA4.1]; exact hj)) := List.getElem?_eq_getElem _
          generalize as[j]'(by rw [hA4.1]; exact hj) = tq at ea
          rw [map_get ea] at ex
          obtain rfl := Option.some.inj ex
          have htq := P3.1 _ _ (hA4.2 j tq r ea er)
          have s3 := sH4.trans P3.1
          refine ⟨rfl, tyes ?_⟩
          refine ⟨_, rfl, f, _, _, _, rfl, rfl, Same.tup s3 hf, rfl, _, rfl, c, _, _, _, rfl, rfl, Same.tup s3 hc, coef0 mk.1, _, rfl, _, rfl, tq, _, _, _, rfl, rfl, SqT.of htq, coef0 (by omega), _, _, rfl, rfl, .inr ⟨by have := pb r mr k; omega, by have := pb r mr k; omega⟩, ?_⟩
          exact lcp_same P3 hD3 (Same.refl _) (lt_line (by omega)) RInt.mono ⟨_, map_get er, rfl⟩
        · intro F3 P3
          have ei := lcp_ints (K := K) P3 (by rw [List.length_map, List.length_map, hA4.1])
          have pos : 0 < (Ps.map fun r => cs.getD k 0 * r.getD k 0).length := by
            rw [List.length_map]
            exact List.length_pos_iff.mpr ne
          refine ⟨_, rfl, _, rfl, D3, _, rfl, SqL.of ei, pos, fun m hm hx => ⟨_, _, rfl, rfl, ?_⟩⟩
          refine ⟨_, rfl, _, rfl, D3, _, rfl, SqL.of ei, pos, fun m' hm' hx' => ⟨_, _, rfl, rfl, ?_⟩⟩
          have em := tmin_is (n := cs.length) ne mk.1 hm hx
          have em2 := tmax_is (n := cs.length) ne mk.1 hm' hx'
          have eL : lo + (((usedZ cs).take (i + 1)).map fun k => tmin (hullM cs.length Ps) (cs.getD k 0) k).sum = lo + (((usedZ cs).take i).map fun k => tmin (hullM cs.length Ps) (cs.getD k 0) k).sum + m := by
            rw [take_snoc ek, List.map_append, List.sum_append, em]
            show lo + (_ + (tmin _ (cs.getD k 0) k + 0)) = _
            omega
          have eG : hi + (((usedZ cs).take (i + 1)).map fun k => tmax (hullM cs.length Ps) (cs.getD k 0) k).sum = hi + (((usedZ cs).take i).map fun k => tmax (hullM cs.length Ps) (cs.getD k 0) k).sum + m' := by
            rw [take_snoc ek, List.map_append, List.sum_append, em2]
            show hi + (_ + (tmax _ (cs.getD k 0) k + 0)) = _
            omega
          rw [eL, eG]
          exact ⟨⟨_, _, rfl⟩, sF4.trans P3.1⟩
      · rintro σ F4 ⟨⟨x3, x7, rfl⟩, sF4⟩
        rw [lnz, List.take_length]
        refine ⟨_, rfl, _, rfl, (by show 2 ≤ sizeLine; decide), fun t ht => ?_⟩
        exact q t _ _ _ ((sF.trans sF4).trans (Same.new ht _)) upd_same (fun _ => ⟨rfl, rfl⟩) fun d => absurd d nD
end
/-! ### the names of the draws: twenty texts in one of four styles -/
def numS (i : Int) : Str := Str.ofString (toString i)
theorem len_app (x y : Str) : (x ++ y).length = x.length + y.length := Array.size_append
def lettersL : List Nat := ("bcdeghijklmnopqrtuvw" : Str).cps.toList
def nmW (st : Int) (k : Nat) : Str :=
  if st = 3 then ("n" : Str) ++ numS ((k : Int) * (k : Int) + 3)
  else if st = 2 then ("zz" : Str) ++ ⟨#[lettersL.getD k 0]⟩
  else if st = 1 then (⟨#[lettersL.getD k 0]⟩ : Str) ++ ("q7" : Str)
  else ⟨#[lettersL.getD k 0]⟩
def namesOf (st : Int) : List Str := (List.range 20).map (nmW st)
theorem numS_short {i : Int} (h : -1000000000 ≤ i ∧ i ≤ 1000000000) : (numS i).length ≤ 11 := by
  have e := int_text_length_le10 (a := i) (k := 10) (by decide) (by omega)
  unfold numS
  rw [ofString_length]
  exact e
theorem log_short {i : Int} (h : -1000000000 ≤ i ∧ i ≤ 1000000000) : i.natAbs.log2 < 1920 := by
  by_cases z : i.natAbs = 0
  · rw [z]
    decide
  · refine (Nat.log2_lt z).mpr (Nat.lt_of_lt_of_le (m := 2 ^ 32) ?_ (Nat.pow_le_pow_right (by decide) (by decide)))
    omega
def spNames : Sp := fun vs H Q _ => ∃ a : Addr, vs = [.ref a] ∧ Src H a ∧ ∀ (st : Int) (p : Addr) (H' : Hp), Stp a H H' → H p = none → 0 ≤ st → st < 4 → H' p = some (.lst ((namesOf st).map V.str)) → Q (.ref p) H'
section
variable {P : Program} {w : World} {K : PySem.W.Frag} {mg : Str → Option Value} {base : Heap}
theorem ok_l_names (T : Txt w K mg) : FnOk P w K mg base CX0 2 T.a_l_names T.d_l_names p_l_names spNames := by
  have g_l_pick := ok_l_pick (P := P) (w := w) (base := base) T
  refine T.F_l_names.ok sc_l_names (fun vs H Q E h => ?_) (fun cdv A outer s H vs Q E hr h => ?_)
  · obtain ⟨a, rfl, _⟩ := h
    rfl
  obtain ⟨a, rfl, hS, q⟩ := h
  refine ⟨_, (pss_cons (ps_set (i := 1) sc_l_names.nd rfl (Or.inl rfl) (pe_call g_l_pick (hr.mono (by first | decide | omega)) rfl T.m_l_pick T.F_l_pick.kp T.b_l_pick .nil pass0 (pa_cons (pv 0) (pa_cons pe_int pa_nil))))
      (pss_cons (ps_set (i := 2) sc_l_names.nd rfl (Or.inl rfl) (pe_lst pa_nil))
      (pss_cons (ps_for PassesOwn.never rfl (pi_range1 rfl T.z_range (pa_cons pe_int pa_nil)) (pg_name (i := 3) sc_l_names.nd rfl (Or.inl rfl))
        (pss_cons (ps_set (i := 4) sc_l_names.nd rfl (Or.inl rfl) (pe_ix ix_str pe_str (pv 3) (fun _ _ => rfl)))
      (C8.pss_cut (ps_if (pt_cmpR op_eq (pv 1) pe_int (nomark _)) (pss_one (ps_set (i := 4) sc_l_names.nd rfl (Or.inl rfl) (pe_op op_add_str (pv 4) pe_str))) pss_nil)
      (C8.pss_cut (ps_if (pt_cmpR op_eq (pv 1) pe_int (nomark _)) (pss_one (ps_set (i := 4) sc_l_names.nd rfl (Or.inl rfl) (pe_op op_add_str pe_str (pv 4)))) pss_nil)
      (C8.pss_cut (ps_if (pt_cmpR op_eq (pv 1) pe_int (nomark _)) (pss_one (ps_set (i := 4) sc_l_names.nd rfl (Or.inl rfl) (pe_op op_add_str pe_str (pe_callTy call_str_int rfl T.z_str bt_str (pa_cons (pe_op op_add (pe_op op_mul (pv 3) (pv 3)) pe_int) pa_nil))))) pss_nil)
      (pss_one (ps_expr (pe_bm PySem.F.plainAttrs_list PySem.F.slot_list_append PySem.F.type_list_append mt_append (pv 2) (pa_cons (pv 4) pa_nil)))))))))
      (pss_one (ps_ret (pv 2)))))), ?_⟩
  refine ⟨_, rfl, a, 4, rfl, hS, by decide, fun st H1 st1 s0 s1 => ?_⟩
  refine ⟨by show 0 ≤ sizeLine; decide, fun l hl => ?_⟩
  have n0 : H l = none := st1.free hl
  refine ⟨20, rfl, by decide, by decide, for_range (lo := 0) (n := 20) (fun i σ H' => Stp a H H' ∧ H' l = some (.lst ((List.range i).map fun k => V.str (nmW st k))) ∧ ∃ v1 v2 : Option V, σ = [some (.ref a), some (.int st), some (.ref l), v1, v2]) ⟨st1.new hl, upd_same, none, none, rfl⟩ ?_ ?_⟩
  · rintro i σ H' hi ⟨sti, hli, v1, v2, rfl⟩
    have hi' : (0 + (i : Int)).toNat < ("bcdeghijklmnopqrtuvw" : Str).cps.toList.length := by
      show (0 + (i : Int)).toNat < 20
      omega
    have e0 := atI_int (xs := ("bcdeghijklmnopqrtuvw" : Str).cps.toList) (r := 0 + (i : Int)) (by omega) hi'
    have e1 : ("bcdeghijklmnopqrtuvw" : Str).cps.toList[(0 + (i : Int)).toNat] = lettersL.getD i 0 := by
      have z : (0 + (i : Int)).toNat = i := by omega
      have hi2 : i < lettersL.length := by show i < 20; exact hi
      show lettersL[(0 + (i : Int)).toNat]'_ = _
      rw [List.getD_eq_getElem?_getD, List.getElem?_eq_getElem hi2]
      show _ = lettersL[i]
      congr 1
    rw [e1] at e0
    refine ⟨_, rfl, _, _, _, rfl, rfl, by decide +kernel, e0, ?_⟩
    generalize ec : lettersL.getD i 0 = c
    refine ⟨fun σ H2 => H2 = H' ∧ σ = [some (.ref a), some (.int st), some (.ref l), some (.int (0 + (i : Int))), some (.str (if st = 1 then (⟨#[c]⟩ : Str) ++ ("q7" : Str) else ⟨#[c]⟩))], ⟨_, rfl, rfl, _, rfl, ?_⟩, ?_⟩
    · refine ite2 (fun h => ?_) (fun h => ?_)
      · have h1 : st = 1 := V.int.inj (of_decide_eq_true h)
        refine ⟨_, rfl, _, _, rfl, rfl, (by show 1 + 2 ≤ sizeLine; decide), rfl, ?_⟩
        rw [if_pos h1]
        rfl
      · have h1 : ¬ st = 1 := fun z => h (decide_eq_true (congrArg V.int z))
        refine ⟨rfl, ?_⟩
        rw [if_neg h1]
        rfl
    rintro σ H2 ⟨rfl, rfl⟩
    refine ⟨fun σ H3 => H3 = H2 ∧ σ = [some (.ref a), some (.int st), some (.ref l), some (.int (0 + (i : Int))), some (.str (if st = 2 then ("zz" : Str) ++ ⟨#[c]⟩ else if st = 1 then (⟨#[c]⟩ : Str) ++ ("q7" : Str) else ⟨#[c]⟩))], ⟨_, rfl, rfl, _, rfl, ?_⟩, ?_⟩
    · refine ite2 (fun h => ?_) (fun h => ?_)
      · have h1 : st = 2 := V.int.inj (of_decide_eq_true h)
        subst h1
        refine ⟨_, rfl, _, _, rfl, rfl, ?_, rfl, rfl⟩
        rw [if_neg (by decide)]
        show 2 + 1 ≤ sizeLine
        decide
      · have h1 : ¬ st = 2 := fun z => h (decide_eq_true (congrArg V.int z))
        refine ⟨rfl, ?_⟩
        rw [if_neg h1]
    rintro σ H3 ⟨rfl, rfl⟩
    refine ⟨fun σ H4 => H4 = H3 ∧ σ = [some (.ref a), some (.int st), some (.ref l), some (.int (0 + (i : Int))), some (.str (nmW st i))], ⟨_, rfl, rfl, _, rfl, ?_⟩, ?_⟩
    · refine ite2 (fun h => ?_) (fun h => ?_)
      · have h1 : st = 3 := V.int.inj (of_decide_eq_true h)
        subst h1
        have hb : ((0 + (i : Int)) * (0 + (i : Int)) + 3) = ((i : Int) * (i : Int) + 3) := by rw [Int.zero_add]
        have hsq : 0 ≤ (i : Int) * (i : Int) ∧ (i : Int) * (i : Int) ≤ 400 := by
          refine ⟨Int.mul_nonneg (by omega) (by omega), ?_⟩
          exact Int.le_trans (Int.mul_le_mul (by omega : (i : Int) ≤ 20) (by omega : (i : Int) ≤ 20) (by omega) (by decide)) (by decide)
        have hbd : -1000000000 ≤ (i : Int) * (i : Int) + 3 ∧ (i : Int) * (i : Int) + 3 ≤ 1000000000 := by omega
        refine ⟨_, rfl, _, rfl, _, _, rfl, rfl, .inl ⟨by omega, by omega⟩, _, _, rfl, rfl, _, rfl, ?_, _, _, rfl, rfl, ?_, rfl, ?_⟩
        · rw [hb]
          exact log_short hbd
        · rw [hb]
          have z := numS_short hbd
          show 1 + (numS ((i : Int) * (i : Int) + 3)).length ≤ sizeLine
          rw [sizeLine_eq]
          omega
        · rw [hb]
          rfl
      · have h1 : ¬ st = 3 := fun z => h (decide_eq_true (congrArg V.int z))
        refine ⟨rfl, ?_⟩
        unfold nmW
        rw [if_neg h1, ec]
    rintro σ H4 ⟨rfl, rfl⟩
    refine ⟨_, rfl, .inl ⟨rfl, _, SqL.of hli⟩, _, rfl, l, _, _, rfl, rfl, hli, ?_, ?_⟩
    · rw [List.length_map, List.length_range]
      exact small1000 (by omega)
    have nl : l ≠ a := (st1.s.ne hl).symm
    have st2 : Stp a H (upd H4 l (.lst ((List.range i).map (fun k => V.str (nmW st k)) ++ [.str (nmW st i)]))) := by
      obtain ⟨c1, m1, k1, hc⟩ := sti.s
      refine ⟨⟨c1, m1, k1, by rw [upd_ne nl.symm]; exact hc⟩, fun b o hb e => ?_⟩
      rw [upd_ne (ne_of_none e n0)]
      exact sti.k b o hb e
    refine ⟨st2, ?_, _, _, rfl⟩
    rw [upd_same, List.range_succ, List.map_append]
    rfl
  · rintro σ H' ⟨sti, hli, v1, v2, rfl⟩
    refine ⟨_, rfl, q st l H' sti n0 s0 (by omega) ?_⟩
    rw [hli]
    exact congrArg (fun z => some (HO.lst z)) (by show _ = (List.map V.str (List.map (nmW st) (List.range 20))); rw [List.map_map]; rfl)
end
/-! ### law k23: far numbers, words, their order, expressions -/
def spFarB : Sp := fun vs H Q _ => ∃ a : Addr, vs = [.ref a] ∧ Src H a ∧ ∀ (r : Int) H', Stp a H H' → -990000000 ≤ r → r ≤ 990000000 → Q (.int r) H'
def spWords : Sp := fun vs H Q _ => ∃ a : Addr, vs = [.ref a] ∧ Src H a ∧ ∀ (zs : List Str) (p : Addr) (H' : Hp), zs.Nodup → zs.length = 20 → Stp a H H' → H p = none → H' p = some (.lst (zs.map V.str)) → Q (.ref p) H'
def spOrder : Sp := fun vs H Q _ => ∃ (a l : Addr) (ws : List Str), vs = [.ref a, .ref l] ∧ Src H a ∧ H l = some (.lst (ws.map V.str)) ∧ ws.length ≤ 20 ∧ ∀ (zs : List Str) (p : Addr) (H' : Hp), zs.Perm ws → Stp a H H' → H p = none → H' p = some (.lst (zs.map V.str)) → Q (.ref p) H'
def spNum23 (K : PySem.W.Frag) (m : Nat) : Sp := fun vs H Q _ => ∃ (a p : Addr) (pool : List Str) (d : Nat), vs = [.ref a, .ref p, .int (d : Int)] ∧ Src H a ∧ H p = some (.lst (pool.map V.str)) ∧ pool.length ≤ 40 ∧ d < m ∧
  ∀ v e H', Stp a H H' → EfAt K H' e v → e.ok pool (d + 1) → Q v H'
theorem lst_ne' {a p : Addr} {H : Hp} {zs : List Str} (h : Src H a) (e : H p = some (.lst (zs.map V.str))) : p ≠ a := fun z => by
  obtain ⟨c, m, k, hs⟩ := h
  rw [z, hs] at e
  have e2 := HO.lst.inj (Option.some.inj e)
  cases zs with
  | nil => cases e2
  | cons x y => rw [List.map_cons] at e2; cases e2
theorem names_nd {st : Int} (h0 : 0 ≤ st) (h4 : st < 4) : (namesOf st).Nodup ∧ (namesOf st).length = 20 := by
  have h : st = 0 ∨ st = 1 ∨ st = 2 ∨ st = 3 := by omega
  rcases h with rfl | rfl | rfl | rfl <;> decide +kernel
section
variable {P : Program} {w : World} {K : PySem.W.Frag} {mg : Str → Option Value} {base : Heap}
theorem ok_l_farB (T : Txt w K mg) : FnOk P w K mg base CX0 2 T.a_l_far T.d_l_far p_l_far spFarB := by
  have g_l_pick := ok_l_pick (P := P) (w := w) (base := base) T
  refine T.F_l_far.ok sc_l_far (fun vs H Q E h => ?_) (fun cdv A outer s H vs Q E hr h => ?_)
  · obtain ⟨a, rfl, _⟩ := h
    rfl
  obtain ⟨a, rfl, hS, q⟩ := h
  refine ⟨_, (pss_cons (ps_if (pt_cmpR op_eq (pe_call g_l_pick (hr.mono (by first | decide | omega)) rfl T.m_l_pick T.F_l_pick.kp T.b_l_pick .nil pass0 (pa_cons (pv 0) (pa_cons pe_int pa_nil))) pe_int (nomark _)) (pss_one (ps_ret (pe_op op_mul (pe_op op_sub (pe_call g_l_pick (hr.mono (by first | decide | omega)) rfl T.m_l_pick T.F_l_pick.kp T.b_l_pick .nil pass0 (pa_cons (pv 0) (pa_cons pe_int pa_nil))) pe_int) pe_int))) pss_nil)
      (pss_one (ps_ret (pe_op op_sub (pe_call g_l_pick (hr.mono (by first | decide | omega)) rfl T.m_l_pick T.F_l_pick.kp T.b_l_pick .nil pass0 (pa_cons (pv 0) (pa_cons pe_int pa_nil))) pe_int)))), ?_⟩
  refine ⟨_, rfl, a, 4, rfl, hS, by decide, fun r H1 st r0 r1 => ⟨rfl, _, rfl, ite2 (fun _ => ?_) (fun _ => ?_)⟩⟩
  · refine ⟨_, rfl, a, 2000001, rfl, st.s, by decide, fun r2 H2 st2 r20 r21 => ?_⟩
    refine ⟨_, _, rfl, rfl, _, _, rfl, rfl, .inr ⟨by decide, by decide⟩, ?_⟩
    exact q _ _ (st.trans st2) (by omega) (by omega)
  · refine ⟨_, rfl, a, 13, rfl, st.s, by decide, fun r2 H2 st2 r20 r21 => ?_⟩
    refine ⟨_, _, rfl, rfl, ?_⟩
    exact q _ _ (st.trans st2) (by omega) (by omega)
theorem ok_l_words (T : Txt w K mg) : FnOk P w K mg base CX0 3 T.a_l_words T.d_l_words p_l_words spWords := by
  have g_l_pick := ok_l_pick (P := P) (w := w) (base := base) T
  have g_l_names := ok_l_names (P := P) (w := w) (base := base) T
  refine T.F_l_words.ok sc_l_words (fun vs H Q E h => ?_) (fun cdv A outer s H vs Q E hr h => ?_)
  · obtain ⟨a, rfl, _⟩ := h
    rfl
  obtain ⟨a, rfl, hS, q⟩ := h
  refine ⟨_, (pss_cons (ps_set (i := 1) sc_l_words.nd rfl (Or.inl rfl) (pe_call g_l_names (hr.mono (by first | decide | omega)) rfl T.m_l_names T.F_l_names.kp T.b_l_names .nil pass0 (pa_cons (pv 0) pa_nil)))
      (pss_cons (ps_set (i := 2) sc_l_words.nd rfl (Or.inl rfl) (pe_call g_l_pick (hr.mono (by first | decide | omega)) rfl T.m_l_pick T.F_l_pick.kp T.b_l_pick .nil pass0 (pa_cons (pv 0) (pa_cons pe_int pa_nil))))
      (pss_one (ps_ret (pe_op op_cat (pe_slice sl_list (pv 1) (po_some (pv 2)) po_none) (pe_slice sl_list (pv 1) po_none (po_some (pv 2)))))))), ?_⟩
  refine ⟨_, rfl, a, rfl, hS, fun st p H2 st2 hp2 st0 st4 hN => ?_⟩
  refine ⟨_, rfl, a, 20, rfl, st2.s, by decide, fun r H3 st3 r0 r1 => ?_⟩
  have hr2 : r.toNat ≤ ((namesOf st).map V.str).length := by
    rw [List.length_map]
    show r.toNat ≤ 20
    omega
  have hp3 : H3 p = some (.lst ((namesOf st).map V.str)) := st3.k _ _ (lst_ne' st2.s hN) hN
  refine ⟨_, rfl, _, rfl, r, rfl, p, _, rfl, SqL.of hp3, fun q1 hq1 => ?_⟩
  have k1 := Same.new hq1 (.lst (cutV ((namesOf st).map V.str) (some r) none))
  refine ⟨_, rfl, _, rfl, r, rfl, p, _, rfl, SqL.of (k1 _ _ hp3), fun q2 hq2 => ?_⟩
  have k2 := k1.trans (Same.new hq2 (.lst (cutV ((namesOf st).map V.str) none (some r))))
  have n12 : q1 ≠ q2 := ne_of_none upd_same hq2
  refine ⟨q1, q2, _, _, rfl, rfl, by rw [upd_ne n12, upd_same], upd_same, ?_, fun ln hln => ?_⟩
  · have c1 := cutV_length ((namesOf st).map V.str) (some r) none
    have c2 := cutV_length ((namesOf st).map V.str) none (some r)
    have c3 : ((namesOf st).map V.str).length = 20 := by rw [List.length_map]; rfl
    have c4 : (40 : Nat) ≤ sizeLine := by decide
    omega
  rw [cut_lo r0 hr2, cut_hi r0 hr2, ← List.map_drop, ← List.map_take, ← List.map_append]
  have pm : ((namesOf st).drop r.toNat ++ (namesOf st).take r.toNat).Perm (namesOf st) := by
    have := @List.perm_append_comm _ ((namesOf st).drop r.toNat) ((namesOf st).take r.toNat)
    rw [List.take_append_drop] at this
    exact this
  have nn := names_nd st0 st4
  rw [cut_lo r0 hr2, cut_hi r0 hr2, ← List.map_drop, ← List.map_take] at k2 hln
  have n0 : H ln = none := by
    have := ((st2.trans st3).same k2).free hln
    exact this
  exact q _ ln _ (pm.nodup_iff.mpr nn.1) (pm.length_eq.trans nn.2) (((st2.trans st3).same k2).new hln) n0 upd_same
theorem ok_l_order (T : Txt w K mg) : FnOk P w K mg base CX0 3 T.a_l_order T.d_l_order p_l_order spOrder := by
  have g_l_pick := ok_l_pick (P := P) (w := w) (base := base) T
  refine T.F_l_order.ok sc_l_order (fun vs H Q E h => ?_) (fun cdv A outer s H vs Q E hr h => ?_)
  · obtain ⟨a, l, ws, rfl, _⟩ := h
    rfl
  obtain ⟨a, l, ws, rfl, hS, hl, lw, q⟩ := h
  refine ⟨_, (pss_cons (ps_set (i := 2) sc_l_order.nd rfl (Or.inl rfl) (pe_lst pa_nil))
      (pss_cons (ps_for PassesOwn.never rfl (pi_list (pv 1)) (pg_name (i := 3) sc_l_order.nd rfl (Or.inl rfl))
        (pss_one (ps_expr (pe_bm PySem.F.plainAttrs_list PySem.F.slot_list_insert PySem.F.type_list_insert mt_insert (pv 2) (pa_cons (pe_call g_l_pick (hr.mono (by first | decide | omega)) rfl T.m_l_pick T.F_l_pick.kp T.b_l_pick .nil pass0 (pa_cons (pv 0) (pa_cons (pe_op op_add (pe_callB call_len_seq rfl T.z_len PySem.boot_len (pa_cons (pv 2) pa_nil)) pe_int) pa_nil))) (pa_cons (pv 3) pa_nil))))))
      (pss_one (ps_ret (pv 2))))), ?_⟩
  have nla := lst_ne' hS hl
  refine ⟨by show 0 ≤ sizeLine; decide, fun o ho => ?_⟩
  have so := Same.new ho (.lst [])
  have noa : o ≠ a := (hS.ne ho).symm
  refine ⟨_, rfl, l, rfl, ⟨_, SqL.of (so _ _ hl)⟩, for_list (K := K) (a := l) (xs := ws.map V.str) (fun i σ G => Stp a H G ∧ ∃ zs : List Str, zs.Perm (ws.take i) ∧ G o = some (.lst (zs.map V.str)) ∧ ∃ v3 : Option V, σ = [some (.ref a), some (.ref l), some (.ref o), v3])
    ⟨Stp.of_same hS so, [], .nil, upd_same, none, rfl⟩ (fun i σ G _ ⟨st, _⟩ => SqL.of (st.k _ _ nla hl)) ?_ ?_⟩
  · rintro i y σ G ey ⟨st, zs, pz, hz, v3, rfl⟩
    obtain ⟨w1, ew, rfl⟩ : ∃ w1, ws[i]? = some w1 ∧ y = .str w1 := by
      rw [List.getElem?_map] at ey
      cases e : ws[i]? with
      | none => rw [e] at ey; cases ey
      | some z => rw [e] at ey; exact ⟨z, rfl, (Option.some.inj ey).symm⟩
    have lz : zs.length ≤ 20 := by
      have := pz.length_eq
      rw [List.length_take] at this
      omega
    refine ⟨_, rfl, .inl ⟨rfl, _, SqL.of hz⟩, ?_⟩
    refine ⟨_, rfl, _, rfl, o, _, rfl, .inl (SqL.of hz), _, _, rfl, rfl, a, _, rfl, st.s, by rw [List.length_map]; omega, fun r G2 st2 r0 r1 => ?_⟩
    rw [List.length_map] at r1
    have hz2 := st2.k _ _ noa hz
    refine ⟨_, rfl, o, _, r, _, rfl, rfl, hz2, by rw [List.length_map]; exact small1000 (by omega), r0, by omega, ?_⟩
    have e2 : (zs.map V.str).take r.toNat ++ [V.str w1] ++ (zs.map V.str).drop r.toNat = (zs.take r.toNat ++ [w1] ++ zs.drop r.toNat).map V.str := by
      rw [List.map_append, List.map_append, List.map_take, List.map_drop]
      rfl
    rw [e2]
    have stE : Stp a H (upd G2 o (.lst ((zs.take r.toNat ++ [w1] ++ zs.drop r.toNat).map V.str))) := by
      obtain ⟨c, m, k, hc⟩ := st2.s
      refine ⟨⟨c, m, k, by rw [upd_ne noa.symm]; exact hc⟩, fun b u hb e => ?_⟩
      rw [upd_ne (ne_of_none e ho)]
      exact (st.trans st2).k b u hb e
    refine ⟨stE, _, ?_, upd_same, some (.str w1), rfl⟩
    have p1 : (zs.take r.toNat ++ [w1] ++ zs.drop r.toNat).Perm (zs ++ [w1]) := by
      have p2 : (zs.take r.toNat ++ ([w1] ++ zs.drop r.toNat)).Perm (zs.take r.toNat ++ (zs.drop r.toNat ++ [w1])) := List.Perm.append_left _ List.perm_append_comm
      rw [← List.append_assoc, ← List.append_assoc, List.take_append_drop] at p2
      exact p2
    rw [List.take_add_one, ew]
    exact p1.trans (List.Perm.append_right _ pz)
  · rintro σ G ⟨st, zs, pz, hz, v3, rfl⟩
    rw [List.length_map, List.take_length] at pz
    exact ⟨_, rfl, q zs o G pz st ho hz⟩
theorem ok_l_number (T : Txt w K mg) : ∀ m : Nat, m ≤ 8 → FnOk P w K mg base CX0 (m + 3) T.a_l_number T.d_l_number p_l_number (spNum23 K m)
  | 0, _ => fn_vac fun vs H Q E h => by obtain ⟨a, p, pool, d, _, _, _, _, h, _⟩ := h; exact absurd h (Nat.not_lt_zero _)
  | m + 1, hm => by
    have g_l_pick := ok_l_pick (P := P) (w := w) (base := base) T
    have g_l_one := ok_l_oneG (P := P) (w := w) (K := K) (base := base) T
    have g_l_far := ok_l_farB (P := P) (w := w) (base := base) T
    have g_l_number := ok_l_number T m (by omega)
    refine T.F_l_number.ok sc_l_number (fun vs H Q E h => ?_) (fun cdv A outer s H vs Q E hr h => ?_)
    · obtain ⟨a, p, pool, d, rfl, _⟩ := h
      rfl
    obtain ⟨a, p, pool, d, rfl, hS, hp, lp, hd, q⟩ := h
    refine ⟨_, (pss_cons (ps_set (i := 3) sc_l_number.nd rfl (Or.inl rfl) (pe_call g_l_pick (hr.mono (by first | decide | omega)) rfl T.m_l_pick T.F_l_pick.kp T.b_l_pick .nil pass0 (pa_cons (pv 0) (pa_cons pe_int pa_nil))))
      (pss_cons (ps_if (PW.pt (pw_and (pt_cmpR op_gt (pv 2) pe_int (nomark _)) (pw_and1 (pt_cmpR op_lt (pv 3) pe_int (nomark _))))) (pss_cons (ps_set (i := 4) sc_l_number.nd rfl (Or.inl rfl) (pe_call g_l_number (hr.mono (by first | decide | omega)) rfl T.m_l_number T.F_l_number.kp T.b_l_number .nil pass0 (pa_cons (pv 0) (pa_cons (pv 1) (pa_cons (pe_op op_sub (pv 2) pe_int) pa_nil)))))
      (pss_cons (ps_set (i := 5) sc_l_number.nd rfl (Or.inl rfl) (pv 4))
      (C8.pss_cut (ps_if (pt_cmpR op_gt (pv 3) pe_int (nomark _)) (pss_one (ps_set (i := 5) sc_l_number.nd rfl (Or.inl rfl) (pe_call g_l_number (hr.mono (by first | decide | omega)) rfl T.m_l_number T.F_l_number.kp T.b_l_number .nil pass0 (pa_cons (pv 0) (pa_cons (pv 1) (pa_cons (pe_op op_sub (pv 2) pe_int) pa_nil)))))) pss_nil)
      (pss_one (ps_ret (pe_tup (pa_cons (pe_call g_l_one (hr.mono (by first | decide | omega)) rfl T.m_l_one T.F_l_one.kp T.b_l_one .nil pass0 (pa_cons (pv 0) (pa_cons (pe_lst (pa_cons pe_str (pa_cons pe_str (pa_cons pe_str (pa_cons pe_str pa_nil))))) pa_nil))) (pa_cons (pv 4) (pa_cons (pv 5) pa_nil))))))))) pss_nil)
      (pss_cons (ps_if (PW.pt (pw_and (pt_cmpR (op_neL0 hr.units0) (pv 1) (pe_lst pa_nil) (nomark _)) (pw_and1 (pt_cmpR op_gt (pe_op op_modN (pe_callTy call_int1 rfl T.z_int bt_int (pa_cons (pv 3) pa_nil)) pe_int) pe_int (nomark _))))) (pss_one (ps_ret (pe_tup (pa_cons pe_str (pa_cons (pe_call g_l_one (hr.mono (by first | decide | omega)) rfl T.m_l_one T.F_l_one.kp T.b_l_one .nil pass0 (pa_cons (pv 0) (pa_cons (pv 1) pa_nil))) pa_nil))))) pss_nil)
      (pss_one (ps_ret (pe_tup (pa_cons pe_str (pa_cons (pe_call g_l_far (hr.mono (by first | decide | omega)) rfl T.m_l_far T.F_l_far.kp T.b_l_far .nil pass0 (pa_cons (pv 0) pa_nil)) pa_nil)))))))), ?_⟩
    have npa := lst_ne' hS hp
    refine ⟨_, rfl, a, 9, rfl, hS, by decide, fun c H1 st1 c0 c1 => ?_⟩
    have hp1 := st1.k _ _ npa hp
    refine ⟨_, rfl, _, _, rfl, rfl, _, rfl, ite2 (fun hd0 => ⟨_, rfl, _, _, rfl, rfl, _, rfl, ite2 (fun hc7 => ?_) (fun _ => ?_)⟩) (fun _ => iteF ?_)⟩
    · have d0 : 0 < d := by
        have := of_decide_eq_true hd0
        omega
      have cast : ((d : Int) - 1) = ((d - 1 : Nat) : Int) := by omega
      refine ⟨_, rfl, _, rfl, _, rfl, _, _, rfl, rfl, a, p, pool, d - 1, by rw [← cast]; rfl, st1.s, hp1, lp, by omega, fun v1 e1 H2 st2 x1 o1 => ?_⟩
      rw [Nat.sub_add_cancel d0] at o1
      have hp2 := st2.k _ _ npa hp1
      refine ⟨_, rfl, fun σ G => ∃ v2 e2, Stp a H G ∧ EfAt K G e1 v1 ∧ EfAt K G e2 v2 ∧ e2.ok pool d ∧ σ = [some (.ref a), some (.ref p), some (.int (d : Int)), some (.int c), some v1, some v2], ?_, ?_⟩
      · refine ⟨_, rfl, _, _, rfl, rfl, _, rfl, ite2 (fun _ => ?_) (fun _ => ?_)⟩
        · refine ⟨_, rfl, _, rfl, _, rfl, _, _, rfl, rfl, a, p, pool, d - 1, by rw [← cast]; rfl, st2.s, hp2, lp, by omega, fun v2 e2 H3 st3 x2 o2 => ?_⟩
          rw [Nat.sub_add_cancel d0] at o2
          exact ⟨v2, e2, (st1.trans st2).trans st3, x1.keep (fun _ _ h => st3.rd h st2.s), x2, o2, rfl⟩
        · exact ⟨v1, e1, st1.trans st2, x1, x1, o1, rfl⟩
      · rintro σ G ⟨v2, e2, st, y1, y2, o2, rfl⟩
        refine ⟨_, rfl, by show 4 ≤ sizeLine; decide, fun l hl => ?_⟩
        have sl := Same.new hl (.lst [.str "+", .str "-", .str "*", .str "*"])
        refine ⟨a, l, _, false, rfl, (st.same sl).s, fun _ => (st.s.ne hl).symm, SqL.of upd_same, by decide, by decide, fun v G2 hv st3 => ?_⟩
        obtain ⟨o, rfl⟩ : ∃ o : Op, v = .str o.s := by
          simp only [List.mem_cons, List.not_mem_nil, or_false] at hv
          rcases hv with rfl | rfl | rfl | rfl
          · exact ⟨.add, rfl⟩
          · exact ⟨.sub, rfl⟩
          · exact ⟨.mul, rfl⟩
          · exact ⟨.mul, rfl⟩
        have kp : KeepT K G G2 := fun _ _ h => st3.rd (Same.tup sl h) (st.same sl).s
        refine ⟨_, rfl, _, rfl, by show 3 ≤ sizeLine; decide, fun t ht => ?_⟩
        have st5 := (((st.same sl).trans st3).new (o := .tup [.str o.s, v1, v2]) ht)
        have kt := Same.new ht (.tup [.str o.s, v1, v2])
        exact q (.ref t) (.bin o e1 e2) _ st5 ⟨t, v1, v2, rfl, SqT.of upd_same, (y1.keep kp).same kt, (y2.keep kp).same kt⟩ ⟨o1, o2⟩
    all_goals
      refine ⟨_, rfl, by show 0 ≤ sizeLine; decide, fun e0 he => ?_⟩
      have se := Same.new he (.lst [])
      have hpe := se _ _ hp1
      have stE := st1.same se
      have num : tRet (tTup (tCons (tC (V.str (Str.ofString "num"))) (tCons (tCall spFarB [] E0 (tCons (tVar 0) tNil)) tNil))) { nx := fun x H' => Q V.non H', rt := Q } (List.set (L2.start n_l_number [V.ref a, V.ref p, V.int ↑d]) 3 (some (V.int c))) (upd H1 e0 (.lst [])) := by
        refine ⟨_, rfl, a, rfl, stE.s, fun r G stG b1 b2 => ⟨by show 2 ≤ sizeLine; decide, fun t ht => ?_⟩⟩
        exact q (.ref t) (.num r) _ ((stE.trans stG).new ht) ⟨t, rfl, SqT.of upd_same⟩ ⟨by omega, by omega⟩
      refine ⟨p, e0, _, rfl, rfl, SqL.of hpe, SqL.of upd_same, _, rfl, ite2 (fun hne => ⟨_, rfl, .inl ⟨c, rfl, _, _, rfl, rfl, (by intro z; cases z), _, _, rfl, rfl, _, rfl, ite2 (fun _ => ?_) (fun _ => num)⟩⟩) (fun _ => iteF num)⟩
      have nep : pool ≠ [] := fun z => by
        subst z
        exact absurd hne (by decide)
      refine ⟨_, rfl, _, rfl, a, p, _, false, rfl, stE.s, fun _ => npa, SqL.of hpe, by rw [List.length_map]; exact List.length_pos_iff.mpr nep, by rw [List.length_map]; omega, fun v G hv stG => ⟨by show 2 ≤ sizeLine; decide, fun t ht => ?_⟩⟩
      obtain ⟨z, hz, rfl⟩ := List.mem_map.mp hv
      exact q (.ref t) (.var z) _ ((stE.trans stG).new ht) ⟨t, rfl, SqT.of upd_same⟩ hz
end
/-! ### law k23: the known values -/
structure Kn (S : List Str) (m : Nat) (kvs : List (Key × V)) : Prop where
  g : ∀ z ∈ S, ∃ i : Int, valV kvs (Sum.inr z) = some (.int i) ∧ -990000000 ≤ i ∧ i ≤ 990000000
  f : ∀ k v, valV kvs k = some v → (∃ z, k = Sum.inr z) ∧ (v = .non ∨ (∃ b, v = .bl b) ∨ ∃ i, v = .int i)
  len : kvs.length ≤ m
def spKnown23 : Sp := fun vs H Q _ => ∃ (a l1 l2 : Addr) (ws ns : List Str), vs = [.ref a, .ref l1, .ref l2] ∧ Src H a ∧ H l1 = some (.lst (ws.map V.str)) ∧ H l2 = some (.lst (ns.map V.str)) ∧ ws.length = 20 ∧ ns.length ≤ 3 ∧ (∀ z ∈ ns, z ∉ ws.drop 13) ∧
  ∀ p H' kvs, Stp a H H' → H p = none → H' p = some (.dK kvs) → Kn ns 6 kvs → Q (.ref p) H'
theorem DGet.at {H : Hp} {d : Addr} {kvs : List (Key × V)} {k : Key} {v : V} (h : H d = some (.dK kvs)) (e : valV kvs k = some v) : DGet H d (kV k) (some v) := by
  rw [← e]
  exact DGet.k (k := k) h
theorem putK_lenle {κ : Type} [DecidableEq κ] {kvs : List (κ × V)} {k : κ} {y : V} : (putK kvs k y).length ≤ kvs.length + 1 := by
  unfold putK
  split
  · rw [List.length_map]
    omega
  · rw [List.length_append]
    exact Nat.le_refl _
theorem Kn.put {S : List Str} {m : Nat} {kvs : List (Key × V)} {z : Str} {v : V} (h : Kn S m kvs) (hz : z ∉ S) (hv : v = .non ∨ (∃ b, v = .bl b) ∨ ∃ i, v = .int i) : Kn S (m + 1) (putK kvs (Sum.inr z) v) := by
  refine ⟨fun y hy => ?_, fun k u e => ?_, ?_⟩
  · obtain ⟨i, e1, e2⟩ := h.g y hy
    refine ⟨i, ?_, e2⟩
    rw [valV_put, if_neg (fun e => by cases e; exact hz hy)]
    exact e1
  · rw [valV_put] at e
    by_cases c : k = Sum.inr z
    · rw [if_pos c] at e
      cases e
      exact ⟨⟨z, c⟩, hv⟩
    · rw [if_neg c] at e
      exact h.f k u e
  · have := putK_lenle (kvs := kvs) (k := Sum.inr z) (y := v)
    have := h.len
    omega
section
variable {P : Program} {w : World} {K : PySem.W.Frag} {mg : Str → Option Value} {base : Heap}
theorem ok_l_known (T : Txt w K mg) : FnOk P w K mg base CX0 4 T.a_l_known T.d_l_known p_l_known spKnown23 := by
  have g_l_pick := ok_l_pick (P := P) (w := w) (base := base) T
  have g_l_far := ok_l_farB (P := P) (w := w) (base := base) T
  refine T.F_l_known.ok sc_l_known (fun vs H Q E h => ?_) (fun cdv A outer s H vs Q E hr h => ?_)
  · obtain ⟨a, l1, l2, ws, ns, rfl, _⟩ := h
    rfl
  obtain ⟨a, l1, l2, ws, ns, rfl, hS, h1, h2, lw, ln, ni, q⟩ := h
  refine ⟨_, (pss_cons (ps_set (i := 3) sc_l_known.nd rfl (Or.inl rfl) pe_dnewK)
      (pss_cons (ps_for PassesOwn.never rfl (pi_list (pv 2)) (pg_name (i := 4) sc_l_known.nd rfl (Or.inl rfl))
        (pss_one (ps_dput (hu_of hr) (pv 3) (pv 4) (pe_call g_l_far (hr.mono (by first | decide | omega)) rfl T.m_l_far T.F_l_far.kp T.b_l_far .nil pass0 (pa_cons (pv 0) pa_nil)) rfl)))
      (C8.pss_cut (ps_if (pt_cmpR op_eq (pe_call g_l_pick (hr.mono (by first | decide | omega)) rfl T.m_l_pick T.F_l_pick.kp T.b_l_pick .nil pass0 (pa_cons (pv 0) (pa_cons pe_int pa_nil))) pe_int (nomark _)) (pss_cons (ps_dput (hu_of hr) (pv 3) (pe_ix ix_list (pv 1) pe_int (fun _ _ => rfl)) (pe_cmpR op_eq (pe_call g_l_pick (hr.mono (by first | decide | omega)) rfl T.m_l_pick T.F_l_pick.kp T.b_l_pick .nil pass0 (pa_cons (pv 0) (pa_cons pe_int pa_nil))) pe_int (nomark _)) rfl)
      (pss_cons (ps_dput (hu_of hr) (pv 3) (pe_ix ix_list (pv 1) pe_int (fun _ _ => rfl)) pe_non rfl)
      (pss_one (ps_dput (hu_of hr) (pv 3) (pe_ix ix_list (pv 1) pe_int (fun _ _ => rfl)) (pe_call g_l_pick (hr.mono (by first | decide | omega)) rfl T.m_l_pick T.F_l_pick.kp T.b_l_pick .nil pass0 (pa_cons (pv 0) (pa_cons pe_int pa_nil))) rfl)))) pss_nil)
      (pss_one (ps_ret (pv 3)))))), ?_⟩
  have n1 := lst_ne' hS h1
  have n2 := lst_ne' hS h2
  refine fun d hd => ?_
  have sd := Same.new hd (.dK [])
  have nda : d ≠ a := (hS.ne hd).symm
  refine ⟨_, rfl, l2, rfl, ⟨_, SqL.of (sd _ _ h2)⟩, for_list (K := K) (a := l2) (xs := ns.map V.str) (fun i σ G => Stp a H G ∧ ∃ kvs, G d = some (.dK kvs) ∧ (∀ z ∈ ns.take i, ∃ i : Int, valV kvs (Sum.inr z) = some (.int i) ∧ -990000000 ≤ i ∧ i ≤ 990000000) ∧ kvs.length ≤ i ∧ (∀ k v, valV kvs k = some v → (∃ z, k = Sum.inr z) ∧ (v = .non ∨ (∃ b, v = .bl b) ∨ ∃ i, v = .int i)) ∧ ∃ v4 : Option V, σ = [some (.ref a), some (.ref l1), some (.ref l2), some (.ref d), v4])
    ⟨Stp.of_same hS sd, [], upd_same, fun z hz => by simp at hz, Nat.le_refl _, (fun k v e => nomatch (show (none : Option V) = some v from e)), none, rfl⟩ (fun i σ G _ ⟨st, _⟩ => SqL.of (st.k _ _ n2 h2)) ?_ ?_⟩
  · rintro i y σ G ey ⟨st, kvs, hk, hg, hl, hf, v4, rfl⟩
    obtain ⟨w1, ew, rfl⟩ : ∃ w1, ns[i]? = some w1 ∧ y = .str w1 := by
      rw [List.getElem?_map] at ey
      cases e : ns[i]? with
      | none => rw [e] at ey; cases ey
      | some z => rw [e] at ey; exact ⟨z, rfl, (Option.some.inj ey).symm⟩
    have i3 : i < 3 := by
      have := (List.getElem?_eq_some_iff.mp ew).1
      omega
    refine ⟨_, rfl, a, rfl, st.s, fun r G2 st2 b1 b2 => ?_⟩
    have hk2 := st2.k _ _ nda hk
    refine ⟨_, rfl, _, rfl, d, _, rfl, DPut.k (k := Sum.inr w1) hk2 (small1000 (by omega)), ?_⟩
    have stE : Stp a H (upd G2 d (.dK (putK kvs (Sum.inr w1) (.int r)))) := by
      obtain ⟨c, m, k, hc⟩ := st2.s
      refine ⟨⟨c, m, k, by rw [upd_ne nda.symm]; exact hc⟩, fun b u hb e => ?_⟩
      rw [upd_ne (ne_of_none e hd)]
      exact (st.trans st2).k b u hb e
    refine ⟨stE, _, upd_same, fun z hz => ?_, ?_, fun k v e => ?_, _, rfl⟩
    · rw [valV_put]
      by_cases e : z = w1
      · subst e
        exact ⟨r, if_pos rfl, b1, b2⟩
      · rw [if_neg (fun y => e (Sum.inr.inj y))]
        rw [List.take_add_one, ew] at hz
        rcases List.mem_append.mp hz with h | h
        · exact hg z h
        · exact absurd (List.mem_singleton.mp h) e
    · have := putK_lenle (kvs := kvs) (k := Sum.inr w1) (y := V.int r)
      omega
    · rw [valV_put] at e
      by_cases c : k = Sum.inr w1
      · rw [if_pos c] at e
        cases e
        exact ⟨⟨w1, c⟩, .inr (.inr ⟨r, rfl⟩)⟩
      · rw [if_neg c] at e
        exact hf k v e
  rintro σ G ⟨st, kvs, hk, hg, hl, hf, v4, rfl⟩
  rw [List.length_map, List.take_length] at hg
  rw [List.length_map] at hl
  have kn : Kn ns 3 kvs := ⟨hg, hf, by omega⟩
  clear hg hf hl
  have wd : ∀ k : Nat, 13 ≤ k → k < 20 → ∃ z, atI (ws.map V.str) (k : Int) = some (.str z) ∧ z ∉ ns := fun k h1 h2 => by
    have e : ws[k]? = some (ws[k]'(by omega)) := List.getElem?_eq_getElem _
    refine ⟨_, atI_nat (map_get e), fun z => ni _ z ?_⟩
    refine List.mem_of_getElem? (i := k - 13) ?_
    rw [List.getElem?_drop, show 13 + (k - 13) = k by omega, e]
  refine ⟨fun σ F => Stp a H F ∧ ∃ kvs, F d = some (.dK kvs) ∧ Kn ns 6 kvs ∧ σ = [some (.ref a), some (.ref l1), some (.ref l2), some (.ref d), v4], ?_, ?_⟩
  · have putS : ∀ {F : Hp} {o : HO}, Stp a H F → Stp a H (upd F d o) := fun {F o} s => by
      obtain ⟨c, m, k, hc⟩ := s.s
      refine ⟨⟨c, m, k, by rw [upd_ne nda.symm]; exact hc⟩, fun b u hb e => ?_⟩
      rw [upd_ne (ne_of_none e hd)]
      exact s.k b u hb e
    have l1d : l1 ≠ d := ne_of_none h1 hd
    refine ⟨_, rfl, a, 2, rfl, st.s, by decide, fun r G2 st2 r0 r1 => ⟨rfl, _, rfl, ite2 (fun _ => ?_) (fun _ => ?_)⟩⟩
    · have hk2 := st2.k _ _ nda hk
      have s2 := st.trans st2
      obtain ⟨z1, e1, m1⟩ := wd 13 (by decide) (by decide)
      obtain ⟨z2, e2, m2⟩ := wd 14 (by decide) (by decide)
      obtain ⟨z3, e3, m3⟩ := wd 15 (by decide) (by decide)
      refine ⟨_, rfl, a, 2, rfl, st2.s, by decide, fun r2 G3 st3 _ _ => ⟨rfl, ?_⟩⟩
      have hk3 := st3.k _ _ nda hk2
      have s3 := s2.trans st3
      refine ⟨_, rfl, _, rfl, l1, _, 13, _, rfl, rfl, SqL.of (s3.k _ _ n1 h1), e1, d, _, rfl, DPut.k (k := Sum.inr z1) hk3 (small1000 (by have := kn.len; omega)), ?_⟩
      have s4 := putS (o := .dK (putK kvs (Sum.inr z1) (.bl (decide (V.int r2 = V.int 1))))) s3
      have k4 := kn.put m1 (v := .bl (decide (V.int r2 = V.int 1))) (.inr (.inl ⟨_, rfl⟩))
      refine ⟨_, rfl, _, rfl, l1, _, 14, _, rfl, rfl, SqL.of (s4.k _ _ n1 h1), e2, d, _, rfl, DPut.k (k := Sum.inr z2) upd_same (small1000 (by have := k4.len; omega)), ?_⟩
      have s5 := putS (o := .dK (putK (putK kvs (Sum.inr z1) (.bl (decide (V.int r2 = V.int 1)))) (Sum.inr z2) .non)) s4
      have k5 := k4.put m2 (v := .non) (.inl rfl)
      refine ⟨_, rfl, a, 3, rfl, s5.s, by decide, fun r3 G6 st6 _ _ => ?_⟩
      have s6 := s5.trans st6
      refine ⟨_, rfl, _, rfl, l1, _, 15, _, rfl, rfl, SqL.of (s6.k _ _ n1 h1), e3, d, _, rfl, DPut.k (k := Sum.inr z3) (st6.k _ _ nda upd_same) (small1000 (by have := k5.len; omega)), ?_⟩
      exact ⟨putS s6, _, upd_same, k5.put m3 (.inr (.inr ⟨_, rfl⟩)), rfl⟩
    · exact ⟨st.trans st2, kvs, st2.k _ _ nda hk, ⟨kn.g, kn.f, by have := kn.len; omega⟩, rfl⟩
  · rintro σ F ⟨sF, kvs, hk, kn, rfl⟩
    exact ⟨_, rfl, q d F kvs sF hd hk kn⟩
end
/-! ### a part of the points, a form -/
theorem src_ne24 {H : Hp} {a p : Addr} {as : List Addr} (h : Src H a) (e : H p = some (.lst (as.map V.ref))) : p ≠ a := fun z => by
  obtain ⟨x, y, w, e2⟩ := h
  rw [z, e2] at e
  cases as with
  | nil => cases e
  | cons b bs => cases e
theorem ints8 {v : V} (h : v ∈ [V.int 0, .int 0, .int 1, .int (-1), .int 1, .int (-1), .int 2, .int (-3)]) : ∃ k : Int, v = .int k ∧ -1000000000 ≤ k ∧ k ≤ 1000000000 := by
  simp only [List.mem_cons, List.not_mem_nil, or_false] at h
  rcases h with h | h | h | h | h | h | h | h <;> exact ⟨_, h, by decide, by decide⟩
theorem ints11 {v : V} (h : v ∈ [V.int 1, .int 1, .int 1, .int (-1), .int (-1), .int 2, .int (-2), .int 3, .int (-3), .int (-7), .int 1000003]) : ∃ k : Int, v = .int k ∧ -1000000000 ≤ k ∧ k ≤ 1000000000 := by
  simp only [List.mem_cons, List.not_mem_nil, or_false] at h
  rcases h with h | h | h | h | h | h | h | h | h | h | h <;> exact ⟨_, h, by decide, by decide⟩
/-- pairs of small numbers -/
def Prs (F : Hp) (ps : List V) : Prop := ∀ v ∈ ps, ∃ (p : Addr) (x y : Int), v = .ref p ∧ F p = some (.tup [.int x, .int y]) ∧ -10 ≤ x ∧ x ≤ 10 ∧ -10 ≤ y ∧ y ≤ 10
theorem Prs.add {F : Hp} {ps : List V} {p : Addr} {x y : Int} (h : Prs F ps) (e : F p = none) (b : -10 ≤ x ∧ x ≤ 10 ∧ -10 ≤ y ∧ y ≤ 10) : Prs (upd F p (.tup [.int x, .int y])) (ps ++ [.ref p]) := fun v hv => by
  rcases List.mem_append.mp hv with h1 | h1
  · obtain ⟨q, x', y', rfl, eq, b'⟩ := h v h1
    exact ⟨q, x', y', rfl, (Same.new e _) _ _ eq, b'⟩
  · rw [List.mem_singleton.mp h1]
    exact ⟨p, x, y, rfl, upd_same, b⟩
theorem cf_set {cs : List Int} {k : Nat} {v : Int} (h : Cf cs) (b : -1000000000 ≤ v ∧ v ≤ 1000000000) : Cf (cs.set k v) := fun c hc => by
  rcases List.mem_or_eq_of_mem_set hc with h1 | h1
  · exact h c h1
  · rw [h1]; exact b
theorem rep_int0 {n : Nat} : (List.replicate n [V.int 0]).flatten = (List.replicate n (0 : Int)).map V.int := by
  induction n with
  | zero => rfl
  | succ n ih => rw [List.replicate_succ, List.replicate_succ, List.flatten_cons, ih, List.map_cons]; rfl
def spForm24 (K : PySem.W.Frag) : Sp := fun vs H Q _ => ∃ (a : Addr) (n : Nat), vs = [.ref a, .int n] ∧ Src H a ∧ n ≤ 20 ∧
  ∀ f H' cs lo hi, Stp a H H' → FormAt K H' f cs lo hi → cs.length = n → Cf cs → lo ≤ hi → Q (.ref f) H'
section
variable {P : Program} {w : World} {K : PySem.W.Frag} {mg : Str → Option Value} {base : Heap}
theorem ok_l_drawn_form (T : Txt w K mg) : FnOk P w K mg base CX0 3 T.a_l_drawn_form T.d_l_drawn_form p_l_drawn_form (spForm24 K) := by
  have g_l_pick := ok_l_pick (P := P) (w := w) (base := base) T
  have g_l_one := ok_l_oneG (P := P) (w := w) (K := K) (base := base) T
  have g_l_far := ok_l_far (P := P) (w := w) (base := base) T
  refine T.F_l_drawn_form.ok sc_l_drawn_form (fun vs H Q E h => ?_) (fun cdv A outer s H vs Q E hr h => ?_)
  · obtain ⟨a, n, rfl, _⟩ := h
    rfl
  obtain ⟨a, n, rfl, hS, hn, q⟩ := h
  refine ⟨_, (pss_cons (ps_set (i := 2) sc_l_drawn_form.nd rfl (Or.inl rfl) (pe_op op_rep (pe_lst (pa_cons pe_int pa_nil)) (pv 1)))
      (pss_cons (ps_set (i := 3) sc_l_drawn_form.nd rfl (Or.inl rfl) (pe_call g_l_pick (hr.mono (by first | decide | omega)) rfl T.m_l_pick T.F_l_pick.kp T.b_l_pick .nil pass0 (pa_cons (pv 0) (pa_cons pe_int pa_nil))))
      (C8.pss_cut (ps_if (pt_cmpR op_lt (pv 3) pe_int (nomark _)) (pss_one (ps_setLc (i := 2) (own := [("_law_k", 4)]) (g := gName 4) (tt := tYes) rfl sc_l_drawn_form.nd rfl rfl (sw_true rfl rfl rfl (by decide +kernel)) (pi_range1 rfl T.z_range (pa_cons (pv 1) pa_nil)) (blkOk_by (own := [("_law_k", 4)]) (N := n_l_drawn_form) (sc := defScope s_l_drawn_form) (by decide +kernel)) (fun _ _ _ _ _ => (pg_name (i := 4) sc_l_drawn_form.nd rfl (Or.inl rfl))) (fun _ _ _ _ _ => pts_nil) (fun _ _ _ _ _ => (pe_call g_l_one (hr.mono (by first | decide | omega)) rfl T.m_l_one T.F_l_one.kp T.b_l_one .nil pass0 (pa_cons (pv 0) (pa_cons (pe_lst (pa_cons pe_int (pa_cons pe_int (pa_cons pe_int (pa_cons (pe_un un_neg pe_int) (pa_cons pe_int (pa_cons (pe_un un_neg pe_int) (pa_cons pe_int (pa_cons (pe_un un_neg pe_int) pa_nil))))))))) pa_nil)))))) (pss_one (ps_if (PW.pt (pw_and (pt_cmpR op_lt (pv 3) pe_int (nomark _)) (pw_and1 (pt_cmpR op_gt (pv 1) pe_int (nomark _))))) (pss_cons (ps_set (i := 5) sc_l_drawn_form.nd rfl (Or.inl rfl) (pe_call g_l_pick (hr.mono (by first | decide | omega)) rfl T.m_l_pick T.F_l_pick.kp T.b_l_pick .nil pass0 (pa_cons (pv 0) (pa_cons (pv 1) pa_nil))))
      (pss_cons (ps_set (i := 6) sc_l_drawn_form.nd rfl (Or.inl rfl) (pe_call g_l_one (hr.mono (by first | decide | omega)) rfl T.m_l_one T.F_l_one.kp T.b_l_one .nil pass0 (pa_cons (pv 0) (pa_cons (pe_lst (pa_cons (pe_tup (pa_cons pe_int (pa_cons (pe_un un_neg pe_int) pa_nil))) (pa_cons (pe_tup (pa_cons pe_int (pa_cons (pe_un un_neg pe_int) pa_nil))) (pa_cons (pe_tup (pa_cons pe_int (pa_cons (pe_un un_neg pe_int) pa_nil))) (pa_cons (pe_tup (pa_cons pe_int (pa_cons (pe_un un_neg pe_int) pa_nil))) (pa_cons (pe_tup (pa_cons pe_int (pa_cons pe_int pa_nil))) (pa_cons (pe_tup (pa_cons (pe_un un_neg pe_int) (pa_cons (pe_un un_neg pe_int) pa_nil))) (pa_cons (pe_tup (pa_cons pe_int (pa_cons (pe_un un_neg pe_int) pa_nil))) (pa_cons (pe_tup (pa_cons pe_int (pa_cons (pe_un un_neg pe_int) pa_nil))) (pa_cons (pe_tup (pa_cons pe_int (pa_cons (pe_un un_neg pe_int) pa_nil))) pa_nil)))))))))) pa_nil))))
      (pss_cons (ps_asg (pe_ix ix_tup (pv 6) pe_int (fun _ _ => rfl)) (pg_sub (pv 2) (pv 5) set_list))
      (pss_one (ps_asg (pe_ix ix_tup (pv 6) pe_int (fun _ _ => rfl)) (pg_sub (pv 2) (pe_op op_modN (pe_callTy call_int1 rfl T.z_int bt_int (pa_cons (pe_op op_add (pe_op op_add (pv 5) pe_int) (pe_call g_l_pick (hr.mono (by first | decide | omega)) rfl T.m_l_pick T.F_l_pick.kp T.b_l_pick .nil pass0 (pa_cons (pv 0) (pa_cons (pe_op op_sub (pv 1) pe_int) pa_nil)))) pa_nil)) (pv 1)) set_list)))))) (pss_one (ps_if (PW.pt (pw_and (pt_cmpR op_lt (pv 3) pe_int (nomark _)) (pw_and1 (pt_cmpR op_gt (pv 1) pe_int (nomark _))))) (pss_one (ps_asg (pe_call g_l_one (hr.mono (by first | decide | omega)) rfl T.m_l_one T.F_l_one.kp T.b_l_one .nil pass0 (pa_cons (pv 0) (pa_cons (pe_lst (pa_cons pe_int (pa_cons pe_int (pa_cons pe_int (pa_cons (pe_un un_neg pe_int) (pa_cons (pe_un un_neg pe_int) (pa_cons pe_int (pa_cons (pe_un un_neg pe_int) (pa_cons pe_int (pa_cons (pe_un un_neg pe_int) (pa_cons (pe_un un_neg pe_int) (pa_cons pe_int pa_nil)))))))))))) pa_nil))) (pg_sub (pv 2) (pe_call g_l_pick (hr.mono (by first | decide | omega)) rfl T.m_l_pick T.F_l_pick.kp T.b_l_pick .nil pass0 (pa_cons (pv 0) (pa_cons (pv 1) pa_nil))) set_list))) pss_nil)))))
      (pss_cons (ps_set (i := 7) sc_l_drawn_form.nd rfl (Or.inl rfl) (pe_call g_l_far (hr.mono (by first | decide | omega)) rfl T.m_l_far T.F_l_far.kp T.b_l_far .nil pass0 (pa_cons (pv 0) pa_nil)))
      (pss_one (ps_ret (pe_tup (pa_cons (pe_callTy call_tuple_of rfl T.z_tuple bt_tuple (pa_cons (pv 2) pa_nil)) (pa_cons (pv 7) (pa_cons (pe_op op_add (pv 7) (pe_call g_l_one (hr.mono (by first | decide | omega)) rfl T.m_l_one T.F_l_one.kp T.b_l_one .nil pass0 (pa_cons (pv 0) (pa_cons (pe_lst (pa_cons pe_int (pa_cons pe_int (pa_cons pe_int (pa_cons pe_int (pa_cons pe_int (pa_cons pe_int pa_nil))))))) pa_nil)))) pa_nil)))))))))), ?_⟩
  refine ⟨(by show 1 ≤ sizeLine; decide), fun l0 hl0 => ?_⟩
  refine ⟨_, rfl, l0, n, _, rfl, rfl, upd_same, by omega, by omega, (by rw [sizeLine_eq]; show 1 * (n : Int).toNat ≤ _; omega), fun l1 hl1 => ?_⟩
  rw [Int.toNat_natCast, rep_int0]
  have s0 : Stp a H (upd (upd H l0 (.lst [.int 0])) l1 (.lst ((List.replicate n (0 : Int)).map V.int))) := ((Stp.refl hS).new hl0).new hl1
  have n1 : H l1 = none := (Stp.refl hS).new hl0 |>.free hl1
  have na1 : a ≠ l1 := hS.ne n1
  have e1 : (upd (upd H l0 (.lst [.int 0])) l1 (.lst ((List.replicate n (0 : Int)).map V.int))) l1 = some (.lst ((List.replicate n (0 : Int)).map V.int)) := upd_same
  generalize (upd (upd H l0 (.lst [.int 0])) l1 (.lst ((List.replicate n (0 : Int)).map V.int))) = H1 at s0 e1
  refine ⟨_, rfl, a, 8, rfl, s0.s, by decide, fun st H2 st2 st0 st1 => ?_⟩
  have e12 := st2.k _ _ na1.symm e1
  have s2 := s0.trans st2
  refine ⟨fun σ G => ∃ (r : Addr) (cs : List Int) (x4 x5 x6 : Option V), σ = [some (.ref a), some (.int n), some (.ref r), some (.int st), x4, x5, x6, none] ∧ Stp a H G ∧ G r = some (.lst (cs.map V.int)) ∧ r ≠ a ∧ cs.length = n ∧ Cf cs, ?_, ?_⟩
  · have cf0 : Cf (List.replicate n 0) := fun c hc => by
      rw [List.eq_of_mem_replicate hc]
      decide
    have lr0 : (List.replicate n (0 : Int)).length = n := List.length_replicate
    refine ⟨_, rfl, _, _, rfl, rfl, _, rfl, ite2 (fun h => ?_) (fun h => ?_)⟩
    · refine ⟨_, rfl, _, rfl, by omega, by omega, fun D hD => ?_⟩
      have naD : a ≠ D := st2.s.ne hD
      refine lc_it walk_range (LcP (fun F => Stp a H2 F) (fun _ y _ => ∃ k : Int, y = .int k ∧ -1000000000 ≤ k ∧ k ≤ 1000000000) D) ⟨(Stp.refl st2.s).new hD, [], upd_same, rfl, fun j y e => by simp at e⟩ (fun _ _ _ _ => trivial) ?_ ?_
      · rintro j x F F' hj PF ⟨rfl, rfl⟩
        refine ⟨rfl, tyes ?_⟩
        refine ⟨_, rfl, _, rfl, _, rfl, _, rfl, (by show 8 ≤ sizeLine; decide), fun l2 hl2 => ?_⟩
        have s3 := PF.1.new (o := .lst [.int 0, .int 0, .int 1, .int (-1), .int 1, .int (-1), .int 2, .int (-3)]) hl2
        refine ⟨a, l2, [.int 0, .int 0, .int 1, .int (-1), .int 1, .int (-1), .int 2, .int (-3)], false, rfl, s3.s, fun _ => (PF.1.s.ne hl2).symm, SqL.of upd_same, by show 0 < 8; decide, by show 8 < 1000; decide, fun v F3 hv st3 => ?_⟩
        have bv := ints8 hv
        exact lcp_step PF (fun o e => st3.k _ _ naD.symm ((Same.new hl2 _) _ _ e)) (lt_line (by omega)) (fun o => (s3.trans st3).put st2.s hD) (fun _ _ _ h => h) fun _ => bv
      · intro F PF
        obtain ⟨sF, acc, h1, h2, h3⟩ := PF
        obtain ⟨ns, rfl⟩ := ints_of fun j y e => by
          obtain ⟨k, e, _⟩ := h3 j y e
          exact ⟨k, e⟩
        rw [List.length_map] at h2
        refine ⟨D, ns, _, _, _, rfl, s2.trans sF, h1, naD.symm, by omega, fun c hc => ?_⟩
        obtain ⟨k, hk, rfl⟩ := List.getElem_of_mem hc
        obtain ⟨v, e, v0, v1⟩ := h3 k _ (map_get (List.getElem?_eq_getElem hk))
        cases e
        exact ⟨v0, v1⟩
    · refine ⟨_, rfl, _, _, rfl, rfl, _, rfl, ite2 (fun h1 => ⟨_, rfl, _, _, rfl, rfl, _, rfl, ite2 (fun hn0 => ?A) (fun hn0 => ?B)⟩) (fun h1 => ifF rfl ?C)⟩
      case A =>
        have n1g : 1 < n := by
          have : (n : Int) > 1 := of_decide_eq_true hn0
          omega
        refine ⟨_, rfl, _, rfl, a, n, rfl, st2.s, by omega, fun at0 H3 st3 at00 at01 => ?_⟩
        have p0 : Prs H3 [] := fun v hv => by simp at hv
        refine ⟨_, rfl, _, rfl, (by show 2 ≤ sizeLine; decide), fun p1 hp1 => ⟨_, rfl, (by show 2 ≤ sizeLine; decide), fun p2 hp2 => ⟨_, rfl, (by show 2 ≤ sizeLine; decide), fun p3 hp3 => ⟨_, rfl, (by show 2 ≤ sizeLine; decide), fun p4 hp4 => ⟨(by show 2 ≤ sizeLine; decide), fun p5 hp5 => ?_⟩⟩⟩⟩⟩
        refine ⟨_, rfl, _, rfl, (by show 2 ≤ sizeLine; decide), fun p6 hp6 => ⟨_, rfl, (by show 2 ≤ sizeLine; decide), fun p7 hp7 => ⟨_, rfl, (by show 2 ≤ sizeLine; decide), fun p8 hp8 => ⟨_, rfl, (by show 2 ≤ sizeLine; decide), fun p9 hp9 => ⟨(by show 9 ≤ sizeLine; decide), fun l2 hl2 => ?_⟩⟩⟩⟩⟩
        have q1 := p0.add (x := 1) (y := -1) hp1 (by decide)
        have q2 := q1.add (x := 1) (y := -1) hp2 (by decide)
        have q3 := q2.add (x := 1) (y := -1) hp3 (by decide)
        have q4 := q3.add (x := 1) (y := -1) hp4 (by decide)
        have q5 := q4.add (x := 1) (y := 1) hp5 (by decide)
        have q6 := q5.add (x := -1) (y := -1) hp6 (by decide)
        have q7 := q6.add (x := 2) (y := -2) hp7 (by decide)
        have q8 := q7.add (x := 1) (y := -2) hp8 (by decide)
        have q9 := q8.add (x := 2) (y := -1) hp9 (by decide)
        have s9 := ((((((((st3.new (o := .tup [.int 1, .int (-1)]) hp1).new (o := .tup [.int 1, .int (-1)]) hp2).new (o := .tup [.int 1, .int (-1)]) hp3).new (o := .tup [.int 1, .int (-1)]) hp4).new (o := .tup [.int 1, .int 1]) hp5).new (o := .tup [.int (-1), .int (-1)]) hp6).new (o := .tup [.int 2, .int (-2)]) hp7).new (o := .tup [.int 1, .int (-2)]) hp8).new (o := .tup [.int 2, .int (-1)]) hp9
        dsimp only at hl2
        generalize upd (upd (upd (upd (upd (upd (upd (upd (upd H3 p1 (.tup [.int 1, .int (-1)])) p2 (.tup [.int 1, .int (-1)])) p3 (.tup [.int 1, .int (-1)])) p4 (.tup [.int 1, .int (-1)])) p5 (.tup [.int 1, .int 1])) p6 (.tup [.int (-1), .int (-1)])) p7 (.tup [.int 2, .int (-2)])) p8 (.tup [.int 1, .int (-2)])) p9 (.tup [.int 2, .int (-1)]) = H4 at q9 s9 hl2
        have s10 := s9.new (o := .lst [.ref p1, .ref p2, .ref p3, .ref p4, .ref p5, .ref p6, .ref p7, .ref p8, .ref p9]) hl2
        refine ⟨a, l2, [.ref p1, .ref p2, .ref p3, .ref p4, .ref p5, .ref p6, .ref p7, .ref p8, .ref p9], false, rfl, s10.s, fun _ => (s9.s.ne hl2).symm, SqL.of upd_same, by show 0 < 9; decide, by show 9 < 1000; decide, fun v H5 hv st5 => ?_⟩
        obtain ⟨p, x, y, rfl, ep, bx⟩ := q9 v hv
        have npa : p ≠ a := fun z => by
          obtain ⟨x1, y1, w1, e⟩ := s9.s
          rw [z, e] at ep
          cases ep
        have ep5 := st5.k _ _ npa ((Same.new hl2 _) _ _ ep)
        have s5 := s2.trans (s10.trans st5)
        have el5 := (s10.trans st5).k _ _ na1.symm e12
        have npl : p ≠ l1 := fun z => by rw [z, el5] at ep5; cases ep5
        have ix1 : ixN ((List.replicate n (0 : Int)).map V.int).length at0 = some at0.toNat := ixN_int at00 (by rw [List.length_map, lr0]; omega)
        refine ⟨_, rfl, p, _, _, _, rfl, rfl, SqT.of ep5, rfl, _, rfl, _, rfl, l1, _, _, _, rfl, rfl, el5, ix1, ?_⟩
        have e6 : ((List.replicate n (0 : Int)).map V.int).set at0.toNat (.int x) = ((List.replicate n (0 : Int)).set at0.toNat x).map V.int := List.map_set.symm
        rw [e6]
        have s6 := s5.put (o := .lst (((List.replicate n (0 : Int)).set at0.toNat x).map V.int)) hS n1
        have ep6 : (upd H5 l1 (.lst (((List.replicate n (0 : Int)).set at0.toNat x).map V.int))) p = some (.tup [.int x, .int y]) := by rw [upd_ne npl]; exact ep5
        have el6 : (upd H5 l1 (.lst (((List.replicate n (0 : Int)).set at0.toNat x).map V.int))) l1 = some (.lst (((List.replicate n (0 : Int)).set at0.toNat x).map V.int)) := upd_same
        have lr1 : ((List.replicate n (0 : Int)).set at0.toNat x).length = n := by rw [List.length_set, lr0]
        have cf1 := cf_set (k := at0.toNat) (v := x) cf0 (by omega)
        generalize (upd H5 l1 (.lst (((List.replicate n (0 : Int)).set at0.toNat x).map V.int))) = H6 at s6 ep6 el6
        generalize (List.replicate n (0 : Int)).set at0.toNat x = r1 at el6 lr1 cf1
        refine ⟨_, rfl, p, _, _, _, rfl, rfl, SqT.of ep6, rfl, _, rfl, ?_⟩
        refine ⟨_, rfl, _, _, rfl, rfl, _, rfl, _, rfl, _, _, rfl, rfl, a, _, rfl, s6.s, by omega, fun d H7 st7 d0 d1 => ⟨_, _, rfl, rfl, .inl ⟨_, rfl, ?_⟩⟩⟩
        have n0 : (n : Int) ≠ 0 := by omega
        refine ⟨_, rfl, _, _, rfl, rfl, n0, ?_⟩
        have fm : (at0 + 1 + d).fmod (n : Int) = (at0 + 1 + d) % (n : Int) := Int.fmod_eq_emod_of_nonneg _ (by omega)
        have fm0 := Int.emod_nonneg (at0 + 1 + d) n0
        have fm1 := Int.emod_lt_of_pos (at0 + 1 + d) (show (0 : Int) < n by omega)
        dsimp only
        rw [fm]
        generalize (at0 + 1 + d) % (n : Int) = ix at fm0 fm1
        have el7 := st7.k _ _ na1.symm el6
        have ix2 : ixN (r1.map V.int).length ix = some ix.toNat := ixN_int fm0 (by rw [List.length_map, lr1]; omega)
        refine ⟨l1, _, _, _, rfl, rfl, el7, ix2, ?_⟩
        have e7 : (r1.map V.int).set ix.toNat (.int y) = (r1.set ix.toNat y).map V.int := List.map_set.symm
        rw [e7]
        exact ⟨l1, _, _, _, _, rfl, (s6.trans st7).put hS n1, upd_same, na1.symm, by rw [List.length_set, lr1], cf_set cf1 (by omega)⟩
      all_goals
        refine ⟨_, rfl, _, _, rfl, rfl, _, rfl, ite2 (fun h2 => ⟨_, rfl, _, _, rfl, rfl, _, rfl, ite2 (fun hn1 => ?_) (fun hn1 => ?_)⟩) (fun h2 => ifF rfl ?_)⟩
        · have n0 : 0 < n := by
            have : (n : Int) > 0 := of_decide_eq_true hn1
            omega
          refine ⟨_, rfl, _, rfl, _, rfl, _, rfl, _, rfl, _, rfl, (by show 11 ≤ sizeLine; decide), fun l2 hl2 => ?_⟩
          have s3 := (Stp.refl st2.s).new (o := .lst [.int 1, .int 1, .int 1, .int (-1), .int (-1), .int 2, .int (-2), .int 3, .int (-3), .int (-7), .int 1000003]) hl2
          refine ⟨a, l2, [.int 1, .int 1, .int 1, .int (-1), .int (-1), .int 2, .int (-2), .int 3, .int (-3), .int (-7), .int 1000003], false, rfl, s3.s, fun _ => (st2.s.ne hl2).symm, SqL.of upd_same, by show 0 < 11; decide, by show 11 < 1000; decide, fun v H3 hv st3 => ?_⟩
          obtain ⟨k, rfl, k0, k1⟩ := ints11 hv
          refine ⟨_, rfl, _, rfl, _, rfl, a, n, rfl, st3.s, by omega, fun d H4 st4 d0 d1 => ?_⟩
          have el4 := (s3.trans (st3.trans st4)).k _ _ na1.symm e12
          have ix1 : ixN ((List.replicate n (0 : Int)).map V.int).length d = some d.toNat := ixN_int d0 (by rw [List.length_map, lr0]; omega)
          refine ⟨l1, _, _, _, rfl, rfl, el4, ix1, ?_⟩
          have e7 : ((List.replicate n (0 : Int)).map V.int).set d.toNat (.int k) = ((List.replicate n (0 : Int)).set d.toNat k).map V.int := List.map_set.symm
          rw [e7]
          exact ⟨l1, _, _, _, _, rfl, (s2.trans (s3.trans (st3.trans st4))).put hS n1, upd_same, na1.symm, by rw [List.length_set, lr0], cf_set cf0 ⟨k0, k1⟩⟩
        · exact ⟨l1, _, _, _, _, rfl, s2, e12, na1.symm, lr0, cf0⟩
        · exact ⟨l1, _, _, _, _, rfl, s2, e12, na1.symm, lr0, cf0⟩
  rintro σ G ⟨r, cs, x4, x5, x6, rfl, sG, eR, nra, lc, cf⟩
  refine ⟨_, rfl, a, rfl, sG.s, fun low G2 st2 => ?_⟩
  have eR2 := st2.k _ _ nra eR
  refine ⟨_, rfl, r, _, rfl, .inl ⟨SqL.of eR2, fun c hc => ?_⟩⟩
  have s3 := (sG.trans st2).new (o := .tup (cs.map V.int)) hc
  refine ⟨_, rfl, _, rfl, _, rfl, (by show 6 ≤ sizeLine; decide), fun l2 hl2 => ?_⟩
  have st4 := (Stp.refl s3.s).new (o := .lst ([0, 0, 0, 1, 4, 2000].map V.int)) hl2
  refine ⟨a, l2, _, false, rfl, st4.s, fun _ => (s3.s.ne hl2).symm, SqL.of (upd_same (o := .lst ([0, 0, 0, 1, 4, 2000].map V.int))), by decide, by decide, fun v G3 hv st5 => ?_⟩
  obtain ⟨k, hk, rfl⟩ := List.mem_map.mp hv
  have k0 : 0 ≤ k := by
    simp at hk
    omega
  have s5 := (s3.trans st4).trans st5
  refine ⟨_, _, rfl, rfl, (by show 3 ≤ sizeLine; decide), fun f hf => ?_⟩
  have nca : c ≠ a := ((sG.trans st2).s.ne hc).symm
  have ec := (st4.trans st5).k _ _ nca upd_same
  exact q f _ cs low (low + k) (s5.new hf) ⟨c, SqT.of upd_same, SqT.of ((Same.new hf _) _ _ ec)⟩ lc cf (by omega)
end
/-! ### law k23: points near each other -/
def spCloud : Sp := fun vs H Q _ => ∃ (a : Addr) (n : Nat), vs = [.ref a, .int (n : Int)] ∧ Src H a ∧ n ≤ 20 ∧
  ∀ p H' Ps, Stp a H H' → H p = none → TPts H' p Ps → Ps ≠ [] → Ps.length ≤ 30 → (∀ r ∈ Ps, r.length = n) → PtB Ps → Q (.ref p) H'
theorem ints6 {v : V} (h : v ∈ [V.int 1, .int 2, .int 3, .int 5, .int 9, .int 2001]) : ∃ k : Int, v = .int k ∧ 1 ≤ k ∧ k ≤ 2001 := by
  simp only [List.mem_cons, List.not_mem_nil, or_false] at h
  rcases h with h | h | h | h | h | h <;> exact ⟨_, h, by decide, by decide⟩
theorem ints_ofQ23 {q : Int → Prop} {acc : List V} (h : ∀ (j : Nat) (y : V), acc[j]? = some y → ∃ k : Int, y = .int k ∧ q k) : ∃ ns : List Int, acc = ns.map V.int ∧ ∀ k ∈ ns, q k := by
  induction acc with
  | nil => exact ⟨[], rfl, fun k hk => by simp at hk⟩
  | cons y acc ih =>
    obtain ⟨k, rfl, hk⟩ := h 0 y rfl
    obtain ⟨ns, rfl, hn⟩ := ih fun j y e => h (j + 1) y (by simpa using e)
    exact ⟨k :: ns, rfl, fun z hz => by
      rcases List.mem_cons.mp hz with rfl | hz
      · exact hk
      · exact hn z hz⟩
section
variable {P : Program} {w : World} {K : PySem.W.Frag} {mg : Str → Option Value} {base : Heap}
theorem ok_l_cloud (T : Txt w K mg) : FnOk P w K mg base CX0 4 T.a_l_cloud T.d_l_cloud p_l_cloud spCloud := by
  have g_l_pick := ok_l_pick (P := P) (w := w) (base := base) T
  have g_l_far := ok_l_farB (P := P) (w := w) (base := base) T
  have g_l_one := ok_l_oneG (P := P) (w := w) (K := K) (base := base) T
  refine T.F_l_cloud.ok sc_l_cloud (fun vs H Q E h => ?_) (fun cdv A outer s H vs Q E hr h => ?_)
  · obtain ⟨a, n, rfl, _⟩ := h
    rfl
  obtain ⟨a, n, rfl, hS, hn, q⟩ := h
  refine ⟨_, (pss_cons (ps_setLc (i := 2) (own := [("_law_k", 3)]) (g := gName 3) (tt := tYes) rfl sc_l_cloud.nd rfl rfl (sw_true rfl rfl rfl (by decide +kernel)) (pi_range1 rfl T.z_range (pa_cons (pv 1) pa_nil)) (blkOk_by (own := [("_law_k", 3)]) (N := n_l_cloud) (sc := defScope s_l_cloud) (by decide +kernel)) (fun _ _ _ _ _ => (pg_name (i := 3) sc_l_cloud.nd rfl (Or.inl rfl))) (fun _ _ _ _ _ => pts_nil) (fun _ _ _ _ _ => (pe_call g_l_far (hr.mono (by first | decide | omega)) rfl T.m_l_far T.F_l_far.kp T.b_l_far .nil pass0 (pa_cons (pv 0) pa_nil))))
      (pss_cons (ps_set (i := 4) sc_l_cloud.nd rfl (Or.inr rfl) (pe_call g_l_one (hr.mono (by first | decide | omega)) rfl T.m_l_one T.F_l_one.kp T.b_l_one .nil pass0 (pa_cons (pv 0) (pa_cons (pe_lst (pa_cons pe_int (pa_cons pe_int (pa_cons pe_int (pa_cons pe_int (pa_cons pe_int (pa_cons pe_int pa_nil))))))) pa_nil))))
      (pss_cons (ps_set (i := 5) sc_l_cloud.nd rfl (Or.inl rfl) pe_int)
      (C8.pss_cut (ps_if (pt_cmpR op_lt (pv 1) pe_int (nomark _)) (pss_one (ps_set (i := 5) sc_l_cloud.nd rfl (Or.inl rfl) (pe_callB (call_max2 rfl) rfl T.z_max bb_max (pa_cons pe_int (pa_cons (pe_op op_add (pv 1) pe_int) pa_nil))))) pss_nil)
      (pss_cons (ps_set (i := 6) sc_l_cloud.nd rfl (Or.inl rfl) (pe_lst pa_nil))
      (pss_cons (ps_for PassesOwn.never rfl (pi_range1 rfl T.z_range (pa_cons (pe_op op_add pe_int (pe_call g_l_pick (hr.mono (by first | decide | omega)) rfl T.m_l_pick T.F_l_pick.kp T.b_l_pick .nil pass0 (pa_cons (pv 0) (pa_cons (pv 5) pa_nil)))) pa_nil)) (pg_name (i := 7) sc_l_cloud.nd rfl (Or.inl rfl))
        (pss_one (ps_expr (pe_bm PySem.F.plainAttrs_list PySem.F.slot_list_append PySem.F.type_list_append mt_append (pv 6) (pa_cons (pe_callTy call_tuple_of rfl T.z_tuple bt_tuple (pa_cons (pe_lc (own := [("_law_low", 8)]) (g := gName 8) (tt := tYes) rfl sc_l_cloud.nd (pi_list (pv 2)) (blkOk_by (own := [("_law_low", 8)]) (N := n_l_cloud) (sc := defScope s_l_cloud) (by decide +kernel)) (fun _ _ _ _ _ => (pg_name (i := 8) sc_l_cloud.nd rfl (Or.inl rfl))) (fun _ _ _ _ _ => pts_nil) (fun _ _ _ _ _ => (pe_op op_add (pv 8) (pe_call g_l_pick (hr.mono (by first | decide | omega)) rfl T.m_l_pick T.F_l_pick.kp T.b_l_pick .nil pass0 (pa_cons (pv 0) (pa_cons (pv 4) pa_nil)))))) pa_nil)) pa_nil)))))
      (pss_one (ps_ret (pv 6))))))))), ?_⟩
  refine ⟨_, rfl, _, rfl, by omega, by omega, fun D hD => ?_⟩
  have naD : a ≠ D := hS.ne hD
  refine lc_it walk_range (LcP (fun F => Stp a H F) (fun _ y _ => ∃ k : Int, y = .int k ∧ -990000000 ≤ k ∧ k ≤ 990000000) D) ⟨(Stp.refl hS).new hD, [], upd_same, rfl, fun j y e => by simp at e⟩ (fun _ _ _ _ => trivial) ?_ ?_
  · rintro j x F F' hj PF ⟨rfl, rfl⟩
    refine ⟨rfl, tyes ?_⟩
    refine ⟨_, rfl, a, rfl, PF.1.s, fun r F3 st3 b1 b2 => ?_⟩
    exact lcp_step PF (fun o e => st3.k _ _ naD.symm e) (lt_line (by omega)) (fun o => (PF.1.trans st3).put hS hD) (fun _ _ _ h => h) fun _ => ⟨r, rfl, b1, b2⟩
  intro F PF
  obtain ⟨sF, acc, h1, h2, h3⟩ := PF
  obtain ⟨ns, rfl, hns⟩ := ints_ofQ23 (q := fun k => -990000000 ≤ k ∧ k ≤ 990000000) h3
  rw [List.length_map] at h2
  have ln : ns.length = n := by
    rw [h2]
    omega
  refine ⟨_, rfl, by show 6 ≤ sizeLine; decide, fun l hl => ?_⟩
  have sl := sF.new (o := .lst [.int 1, .int 2, .int 3, .int 5, .int 9, .int 2001]) hl
  refine ⟨a, l, _, false, rfl, sl.s, fun _ => (sF.s.ne hl).symm, SqL.of upd_same, by decide, by decide, fun v F2 hv st2 => ?_⟩
  obtain ⟨wd, rfl, w1, w2⟩ := ints6 hv
  have h1b := st2.k _ _ naD.symm (Same.new hl (.lst [.int 1, .int 2, .int 3, .int 5, .int 9, .int 2001]) _ _ h1)
  have s2 := sl.trans st2
  clear sl st2 hv sF h1
  refine ⟨fun σ G => G = F2 ∧ ∃ m : Int, 4 ≤ m ∧ m ≤ 22 ∧ σ = [some (.ref a), some (.int (n : Int)), some (.ref D), none, some (.int wd), some (.int m), none, none, none], ?_, ?_⟩
  · refine ⟨_, rfl, _, _, rfl, rfl, _, rfl, ite2 (fun h => ?_) (fun h => ?_)⟩
    · refine ⟨_, rfl, _, _, rfl, rfl, _, _, rfl, ?_⟩
      exact ⟨rfl, _, by split <;> omega, by split <;> omega, rfl⟩
    · exact ⟨rfl, 4, by decide, by decide, rfl⟩
  rintro σ G ⟨rfl, m, m1, m2, rfl⟩
  refine ⟨by show 0 ≤ sizeLine; decide, fun o ho => ?_⟩
  have so := s2.new (o := .lst []) ho
  have hDo := Same.new ho (.lst []) _ _ h1b
  have noa : o ≠ a := (s2.s.ne ho).symm
  have ho0 := s2.free ho
  refine ⟨_, rfl, _, rfl, a, m, rfl, so.s, by omega, fun r G2 st3 r0 r1 => ?_⟩
  have h1c := st3.k _ _ naD.symm hDo
  have ho3 : G2 o = some (.lst []) := st3.k _ _ noa upd_same
  have s3 := so.trans st3
  have nDo : D ≠ o := ne_of_none h1b ho
  clear so st3 hDo ho m1
  refine ⟨_, _, rfl, rfl, 1 + r, rfl, by omega, by omega, for_range (lo := 0) (fun i σ F => Stp a H F ∧ F D = some (.lst (ns.map V.int)) ∧ ∃ (as : List Addr) (Ps : List (List Int)) (x7 : Option V), F o = some (.lst (as.map V.ref)) ∧ TA F as Ps ∧ Ps.length = i ∧ (∀ r ∈ Ps, r.length = n) ∧ PtB Ps ∧ σ = [some (.ref a), some (.int (n : Int)), some (.ref D), none, some (.int wd), some (.int m), some (.ref o), x7, none])
    ⟨s3, h1c, [], [], none, ho3, ⟨rfl, fun i b r e => by simp at e⟩, rfl, fun r hr => by simp at hr, fun r hr => by simp at hr, rfl⟩ ?_ ?_⟩
  · rintro i σ F hi ⟨sF, hDF, as, Ps, x7, hoF, tF, lF, rF, bF, rfl⟩
    have hi30 : i < 30 := by omega
    refine ⟨_, rfl, .inl ⟨rfl, _, SqL.of hoF⟩, ?_⟩
    refine ⟨_, rfl, D, rfl, ⟨_, SqL.of hDF⟩, fun D2 hD2 => ?_⟩
    have naD2 : a ≠ D2 := sF.s.ne hD2
    have nDD2 : D ≠ D2 := ne_of_none hDF hD2
    refine lc_it (walk_list (xs := ns.map V.int)) (LcP (fun G => Stp a F G) (fun _ y _ => ∃ k : Int, y = .int k ∧ -400000000000 ≤ k ∧ k ≤ 400000000000) D2) ⟨(Stp.refl sF.s).new hD2, [], upd_same, rfl, fun j y e => by simp at e⟩ (fun i G _ P => SqL.of (P.1.k _ _ naD.symm hDF)) ?_ ?_
    · rintro j x G G' hj PF ⟨rfl, ex⟩
      rw [List.length_map] at hj
      rw [map_get (List.getElem?_eq_getElem hj)] at ex
      obtain rfl := Option.some.inj ex
      have bj := hns _ (List.getElem_mem hj)
      refine ⟨rfl, tyes ?_⟩
      refine ⟨_, rfl, _, rfl, _, rfl, a, wd, rfl, PF.1.s, by omega, fun r2 G3 st3 b1 b2 => ⟨_, _, rfl, rfl, ?_⟩⟩
      exact lcp_step PF (fun o e => st3.k _ _ naD2.symm e) (lt_line (by omega)) (fun o => (PF.1.trans st3).put sF.s hD2) (fun _ _ _ h => h) fun _ => ⟨_, rfl, by omega, by omega⟩
    intro G PG
    obtain ⟨sG, acc, g1, g2, g3⟩ := PG
    obtain ⟨row, rfl, hrow⟩ := ints_ofQ23 (q := fun k => -400000000000 ≤ k ∧ k ≤ 400000000000) g3
    rw [List.length_map, List.length_map] at g2
    refine ⟨D2, _, rfl, .inl ⟨SqL.of g1, fun t ht => ?_⟩⟩
    have st := Same.new ht (.tup (row.map V.int))
    have hoG : G o = some (.lst (as.map V.ref)) := sG.k _ _ noa hoF
    have tG := (tF.stp sG sF.s).same st
    refine ⟨o, _, _, rfl, rfl, st _ _ hoG, ?_, ?_⟩
    · exact lt_line (by rw [List.length_map, tF.1]; omega)
    have put1 : ∀ (b : Addr) u, b ≠ o → (upd G t (.tup (row.map V.int))) b = some u → (upd (upd G t (.tup (row.map V.int))) o (.lst (as.map V.ref ++ [.ref t]))) b = some u := fun b u hb e => by rw [upd_ne hb]; exact e
    have toO : t ≠ o := fun z => by rw [z, hoG] at ht; cases ht
    have sE : Stp a H (upd (upd G t (.tup (row.map V.int))) o (.lst (as.map V.ref ++ [.ref t]))) := by
      have s5 := (sF.trans sG).same st
      obtain ⟨c, m, k, hc⟩ := s5.s
      refine ⟨⟨c, m, k, put1 _ _ noa.symm hc⟩, fun b u hb e => put1 _ _ (ne_of_none e ho0) (s5.k b u hb e)⟩
    refine ⟨sE, put1 _ _ nDo (st _ _ (sG.k _ _ naD.symm hDF)), as ++ [t], Ps ++ [row], _, ?_, ?_, ?_, ?_, ?_, rfl⟩
    · rw [List.map_append]
      exact upd_same
    · refine ⟨by rw [List.length_append, List.length_append, tG.1]; rfl, fun k b r e1 e2 => ?_⟩
      by_cases hk : k < as.length
      · rw [List.getElem?_append_left hk] at e1
        rw [List.getElem?_append_left (by rw [← tG.1]; exact hk)] at e2
        have e3 := tG.2 k b r e1 e2
        exact put1 _ _ (fun z => by rw [z] at e3; exact absurd (e3.symm.trans (st _ _ hoG)) (by intro y; cases y)) e3
      · rw [List.getElem?_append_right (by omega)] at e1
        rw [List.getElem?_append_right (by rw [← tG.1]; omega)] at e2
        rw [tG.1] at e1
        have k0 : k - Ps.length = 0 := by
          have := (List.getElem?_eq_some_iff.mp e2).1
          simp at this
          omega
        rw [k0] at e1 e2
        cases e1
        cases e2
        exact put1 _ _ toO upd_same
    · rw [List.length_append, lF]
      rfl
    · intro r hr
      rcases List.mem_append.mp hr with h | h
      · exact rF r h
      · rw [List.mem_singleton.mp h]
        omega
    · intro r hr k
      rcases List.mem_append.mp hr with h | h
      · exact bF r h k
      · rw [List.mem_singleton.mp h, List.getD_eq_getElem?_getD]
        cases e : row[k]? with
        | none => show -400000000000 ≤ (0 : Int) ∧ (0 : Int) ≤ _; decide
        | some y => exact hrow y (List.mem_of_getElem? e)
  · rintro σ F ⟨sF, hDF, as, Ps, x7, hoF, tF, lF, rF, bF, rfl⟩
    refine ⟨_, rfl, q o F Ps sF ho0 ⟨as, hoF, tF⟩ ?_ ?_ rF bF⟩
    · intro z
      rw [z] at lF
      simp at lF
      omega
    · omega
end
/-! ### law k23: whether a name occurs (the law's own) -/
def spHas (K : PySem.W.Frag) (m : Nat) : Sp := fun vs H Q _ => ∃ (v : V) (nl : Addr) (N S : List Str) (e : Ef), vs = [v, .ref nl] ∧ EfAt K H e v ∧ e.ok S m ∧ H nl = some (.lst (N.map V.str)) ∧ ∀ H', Same H H' → Q (.bl (occ N e)) H'
theorem ty_tup {K : PySem.W.Frag} {H : Hp} {p : Addr} {xs : List V} (h : SqT K H p xs) : TyX K H (.ref p) (.type "tuple") := by
  rcases h with (h | ⟨o, h⟩) | ⟨o, its, n, hk, hc, _⟩
  · exact .base (.tup h)
  · exact .fTuple h
  · exact .kTuple hk hc
theorem ef_ref {K : PySem.W.Frag} {H : Hp} {e : Ef} {v : V} (h : EfAt K H e v) : ∃ p xs, v = .ref p ∧ SqT K H p xs := by
  cases e with
  | num i => obtain ⟨p, e, h⟩ := h; exact ⟨p, _, e, h⟩
  | var z => obtain ⟨p, e, h⟩ := h; exact ⟨p, _, e, h⟩
  | bin o a b => obtain ⟨p, x, y, e, h, _⟩ := h; exact ⟨p, _, e, h⟩
section
variable {P : Program} {w : World} {K : PySem.W.Frag} {mg : Str → Option Value} {base : Heap}
theorem ok_l_has (T : Txt w K mg) : ∀ m : Nat, m ≤ 20 → FnOk P w K mg base CX0 (m + 1) T.a_l_has T.d_l_has p_l_has (spHas K m)
  | 0, _ => fn_vac fun vs H Q E h => by obtain ⟨v, nl, N, S, e, _, _, h, _⟩ := h; exact h
  | m + 1, hm => by
    have g_l_has := ok_l_has T m (by omega)
    refine T.F_l_has.ok sc_l_has (fun vs H Q E h => ?_) (fun cdv A outer s H vs Q E hr h => ?_)
    · obtain ⟨v, nl, N, S, e, rfl, _⟩ := h
      rfl
    obtain ⟨v, nl, N, S, e, rfl, hx, ho, hN, q⟩ := h
    refine ⟨_, (pss_cons (ps_if (pt_cmpR op_eq (pe_ix ix_tup (pv 0) pe_int (fun _ _ => rfl)) pe_str (nomark _)) (pss_one (ps_ret (pe_cmpR op_in_seq (pe_ix ix_tup (pv 0) pe_int (fun _ _ => rfl)) (pv 1) (by rfl)))) pss_nil)
      (pss_cons (ps_for PassesOwn.never rfl (pi_tup (pe_slice sl_tup (pv 0) (po_some pe_int) po_none)) (pg_name (i := 2) sc_l_has.nd rfl (Or.inl rfl))
        (pss_one (ps_if (PW.pt (pw_and (pt_val (pe_callB call_isi rfl T.z_isinstance bb_isinstance (pa_cons (pv 2) (pa_cons (pe_bltn (v := .ty "tuple") rfl T.z_tuple bt_tuple rfl) pa_nil)))) (pw_and1 (pt_val (pe_call g_l_has (hr.mono (by first | decide | omega)) rfl T.m_l_has T.F_l_has.kp T.b_l_has .nil pass0 (pa_cons (pv 2) (pa_cons (pv 1) pa_nil))))))) (pss_one (ps_ret pe_bl)) pss_nil)))
      (pss_one (ps_ret pe_bl)))), ?_⟩
    cases e with
    | num i =>
      obtain ⟨p, rfl, hp⟩ := hx
      refine ⟨_, rfl, p, _, _, _, rfl, rfl, hp, rfl, rfl, _, rfl, ifF (by decide +kernel) ?_⟩
      refine ⟨_, rfl, _, rfl, ?_⟩
      dsimp only [tNoPart]
      refine slT_tail hp (by show 1 ≤ 2; decide) fun w1 F1 s1 hw => ⟨w1, rfl, ⟨_, SqT.of hw⟩, for_tup (D := { nx := tRet (tC (V.bl false)) { nx := fun x H' => Q V.non H', rt := Q }, rt := Q }) (K := K) (a := w1) (xs := [V.int i]) (fun _ σ G => Same H G ∧ Same F1 G ∧ ∃ x2 : Option V, σ = [some (.ref p), some (.ref nl), x2]) ⟨s1, Same.refl _, none, rfl⟩ (fun _ σ G _ ⟨_, s, _⟩ => Same.tup s (SqT.of hw)) ?_ ?_⟩
      · rintro j y σ G ey ⟨sG, sF, x2, rfl⟩
        match j, ey with
        | 0, ey =>
          cases ey
          exact ⟨_, rfl, _, _, _, _, false, rfl, .ty _, (.base (.int _)), kit_ty kb_it, ⟨_, rfl, iteF (iteF ⟨sG, sF, _, rfl⟩)⟩⟩
        | j + 1, ey => simp at ey
      · rintro σ G ⟨sG, _, x2, rfl⟩
        exact q G sG
    | var z =>
      obtain ⟨p, rfl, hp⟩ := hx
      refine ⟨_, rfl, p, _, _, _, rfl, rfl, hp, rfl, rfl, _, rfl, ifT (by decide +kernel) ?_⟩
      refine ⟨_, rfl, p, _, _, _, rfl, rfl, hp, rfl, _, rfl, nl, _, rfl, .inl (SqL.of hN), rfl, flatS N, ?_⟩
      rw [inV_str]
      exact q H (Same.refl _)
    | bin o a b =>
      obtain ⟨p, x, y, rfl, hp, hx, hy⟩ := hx
      have n1 : ¬ (V.str o.s = V.str "name") := by cases o <;> decide +kernel
      refine ⟨_, rfl, p, _, _, _, rfl, rfl, hp, rfl, rfl, _, rfl, ifF (decide_eq_false n1) ?_⟩
      refine ⟨_, rfl, _, rfl, ?_⟩
      dsimp only [tNoPart]
      refine slT_tail hp (by show 1 ≤ 3; decide) fun w1 F1 s1 hw => ⟨w1, rfl, ⟨_, SqT.of hw⟩, for_tup (D := { nx := tRet (tC (V.bl false)) { nx := fun x H' => Q V.non H', rt := Q }, rt := Q }) (K := K) (a := w1) (xs := [x, y]) (fun i σ G => Same H G ∧ Same F1 G ∧ (([occ N a, occ N b].take i).any id = false) ∧ ∃ x2 : Option V, σ = [some (.ref p), some (.ref nl), x2]) ⟨s1, Same.refl _, rfl, none, rfl⟩ (fun _ σ G _ ⟨_, s, _⟩ => Same.tup s (SqT.of hw)) ?_ ?_⟩
      · rintro j z σ G ez ⟨sG, sF, an, x2, rfl⟩
        obtain ⟨e', ex, oe, h1, h2⟩ : ∃ e' : Ef, EfAt K H e' z ∧ e'.ok S m ∧ (occ N e' = false → ([occ N a, occ N b].take (j + 1)).any id = false) ∧ (occ N e' = true → occ N (.bin o a b) = true) := by
          match j, ez, an with
          | 0, ez, an =>
            cases ez
            refine ⟨a, hx, ho.1, fun h => ?_, fun h => ?_⟩
            · show (occ N a || false) = false
              rw [h]
              rfl
            · show (occ N a || occ N b) = true
              rw [h]
              rfl
          | 1, ez, an =>
            cases ez
            have ha : occ N a = false := by
              have : (occ N a || false) = false := an
              rwa [Bool.or_false] at this
            refine ⟨b, hy, ho.2, fun h => ?_, fun h => ?_⟩
            · show (occ N a || (occ N b || false)) = false
              rw [h, ha]
              rfl
            · show (occ N a || occ N b) = true
              rw [h, Bool.or_true]
          | j + 2, ez, _ => simp at ez
        obtain ⟨pz, xz, rfl, hz⟩ := ef_ref ex
        refine ⟨_, rfl, _, _, _, _, true, rfl, .ty _, ty_tup (Same.tup sG hz), kit_ty kb_tt, ⟨_, rfl, iteT ⟨_, rfl, _, rfl, _, nl, N, S, e', rfl, ex.same sG, oe, sG _ _ hN, fun G2 s2 => ⟨_, rfl, ?_⟩⟩⟩⟩
        cases hc : occ N e' with
        | true =>
          refine ifT rfl ?_
          have e2 := h2 hc
          rw [e2] at q
          exact q G2 (sG.trans s2)
        | false => exact ifF rfl ⟨sG.trans s2, sF.trans s2, h1 hc, _, rfl⟩
      · rintro σ G ⟨sG, _, an, x2, rfl⟩
        have e2 : occ N (.bin o a b) = false := by
          have : (occ N a || (occ N b || false)) = false := an
          rw [Bool.or_false] at this
          exact this
        rw [e2] at q
        exact q G sG
end
/-! ### law k23: the value of an expression (the law's own) -/
def EvAt (kvs : List (Key × V)) (ρ : Str → Int) : Ef → Prop
  | .num _ => True
  | .var z => valV kvs (Sum.inr z) = some (.int (ρ z))
  | .bin _ a b => EvAt kvs ρ a ∧ EvAt kvs ρ b
theorem ev_bd {S : List Str} {ρ : Str → Int} (hρ : ∀ z, Bd 40 (ρ z)) : ∀ {m : Nat} {e : Ef}, e.ok S m → Bd (Eb m) (evE ρ e)
  | 0, _, h => h.elim
  | m + 1, .num i, h => (bd_small h).mono (by unfold Eb; omega)
  | m + 1, .var z, h => (hρ z).mono (by unfold Eb; omega)
  | m + 1, .bin o a b, h => by
    have ha := ev_bd hρ h.1
    have hb := ev_bd hρ h.2
    cases o with
    | add => exact (bd_add ha hb).1.mono (by show Eb m + 1 ≤ 2 * Eb m + 100; omega)
    | sub => exact (bd_add ha hb).2.mono (by show Eb m + 1 ≤ 2 * Eb m + 100; omega)
    | mul => exact (bd_mul ha hb).mono (by show Eb m + Eb m ≤ 2 * Eb m + 100; omega)
def spVal23 (K : PySem.W.Frag) (m : Nat) : Sp := fun vs H Q _ => ∃ (v : V) (d : Addr) (e : Ef) (S : List Str) (ρ : Str → Int) (kvs : List (Key × V)), vs = [v, .ref d] ∧ EfAt K H e v ∧ e.ok S m ∧ H d = some (.dK kvs) ∧ EvAt kvs ρ e ∧ (∀ z, Bd 40 (ρ z)) ∧
  ∀ H', Same H H' → Q (.int (evE ρ e)) H'
section
variable {P : Program} {w : World} {K : PySem.W.Frag} {mg : Str → Option Value} {base : Heap}
theorem ok_l_value (T : Txt w K mg) : ∀ m : Nat, m ≤ 8 → FnOk P w K mg base CX0 m T.a_l_value T.d_l_value p_l_value (spVal23 K m)
  | 0, _ => fn_vac fun vs H Q E h => by obtain ⟨v, d, e, S, ρ, kvs, _, _, h, _⟩ := h; exact h
  | m + 1, hm => by
    have g_l_value := ok_l_value T m (by omega)
    refine T.F_l_value.ok sc_l_value (fun vs H Q E h => ?_) (fun cdv A outer s H vs Q E hr h => ?_)
    · obtain ⟨v, d, e, S, ρ, kvs, rfl, _⟩ := h
      rfl
    obtain ⟨v, d, e, S, ρ, kvs, rfl, hx, ho, hd, hv, hρ, q⟩ := h
    refine ⟨_, (pss_cons (ps_set (i := 2) sc_l_value.nd rfl (Or.inl rfl) (pe_ix ix_tup (pv 0) pe_int (fun _ _ => rfl)))
      (pss_cons (ps_if (pt_cmpR op_eq (pv 2) pe_str (nomark _)) (pss_one (ps_ret pe_non)) pss_nil)
      (pss_cons (ps_if (pt_cmpR op_eq (pv 2) pe_str (nomark _)) (pss_one (ps_ret (pe_dget (hu_of hr) (pv 1) (pe_ix ix_tup (pv 0) pe_int (fun _ _ => rfl)) (fun _ _ => rfl)))) pss_nil)
      (pss_cons (ps_if (PW.pt (pw_or (pt_cmpR op_eq (pv 2) pe_str (nomark _)) (pw_or1 (pt_cmpR op_eq (pv 2) pe_str (nomark _))))) (pss_one (ps_ret (pe_ix ix_tup (pv 0) pe_int (fun _ _ => rfl)))) pss_nil)
      (pss_cons (ps_set (i := 3) sc_l_value.nd rfl (Or.inl rfl) (pe_call g_l_value (hr.mono (by first | decide | omega)) rfl T.m_l_value T.F_l_value.kp T.b_l_value .nil pass0 (pa_cons (pe_ix ix_tup (pv 0) pe_int (fun _ _ => rfl)) (pa_cons (pv 1) pa_nil))))
      (pss_cons (ps_if (pt_cmpR op_eq (pv 2) pe_str (nomark _)) (pss_one (ps_ret (pe_not (pv 3)))) pss_nil)
      (pss_cons (ps_set (i := 4) sc_l_value.nd rfl (Or.inl rfl) (pe_call g_l_value (hr.mono (by first | decide | omega)) rfl T.m_l_value T.F_l_value.kp T.b_l_value .nil pass0 (pa_cons (pe_ix ix_tup (pv 0) pe_int (fun _ _ => rfl)) (pa_cons (pv 1) pa_nil))))
      (pss_cons (ps_if (pt_cmpR op_in_seq (pv 2) (pe_lst (pa_cons pe_str (pa_cons pe_str (pa_cons pe_str pa_nil)))) (by rfl)) (pss_one (ps_ret (pe_ix ix_list (pe_lst (pa_cons (pe_op op_add (pv 3) (pv 4)) (pa_cons (pe_op op_sub (pv 3) (pv 4)) (pa_cons (pe_op op_mulW (pv 3) (pv 4)) pa_nil)))) (pe_bm PySem.F.plainAttrs_list PySem.F.slot_list_index PySem.F.type_list_index mt_index (pe_lst (pa_cons pe_str (pa_cons pe_str (pa_cons pe_str pa_nil)))) (pa_cons (pv 2) pa_nil)) (fun _ _ => rfl)))) pss_nil)
      (pss_cons (ps_if (pt_cmpR op_in_seq (pv 2) (pe_lst (pa_cons pe_str (pa_cons pe_str pa_nil))) (by rfl)) (pss_one (ps_ret (pe_or (pe_cmpR op_lt (pv 3) (pv 4) (nomark _)) (pe_one (pe_and (pe_cmpR op_eq (pv 2) pe_str (nomark _)) (pe_one (pe_cmpR op_eq (pv 3) (pv 4) (nomark _)))))))) pss_nil)
      (pss_cons (ps_if (pt_cmpR op_eq (pv 2) pe_str (nomark _)) (pss_one (ps_ret (pe_and (pv 3) (pe_one (pv 4))))) pss_nil)
      (pss_cons (ps_if (pt_cmpR op_eq (pv 2) pe_str (nomark _)) (pss_one (ps_ret (pe_or (pv 3) (pe_one (pv 4))))) pss_nil)
      (pss_one (ps_ret (pe_cmpR op_eq (pe_cmpR op_eq (pv 3) (pv 4) (nomark _)) (pe_cmpR op_ne (pv 2) pe_str (nomark _)) (nomark _))))))))))))))), ?_⟩
    cases e with
    | num i =>
      obtain ⟨p, rfl, hp⟩ := hx
      refine ⟨_, rfl, p, _, _, _, rfl, rfl, hp, rfl, _, rfl, rfl, _, rfl, ifF (by decide +kernel) ?_⟩
      refine ⟨_, rfl, rfl, _, rfl, ifF (by decide +kernel) ?_⟩
      refine ⟨_, rfl, rfl, _, rfl, ifT (by decide +kernel) (iteT ?_)⟩
      exact ⟨_, rfl, p, _, _, _, rfl, rfl, hp, rfl, q _ (Same.refl H)⟩
    | var z =>
      obtain ⟨p, rfl, hp⟩ := hx
      refine ⟨_, rfl, p, _, _, _, rfl, rfl, hp, rfl, _, rfl, rfl, _, rfl, ifF (by decide +kernel) ?_⟩
      refine ⟨_, rfl, rfl, _, rfl, ifT (by decide +kernel) ?_⟩
      exact ⟨_, rfl, _, rfl, p, _, _, _, rfl, rfl, hp, rfl, d, _, rfl, DGet.at (k := Sum.inr z) hd hv, q _ (Same.refl H)⟩
    | bin o a b =>
      obtain ⟨p, x, y, rfl, hp, hx, hy⟩ := hx
      have n1 : ¬ (V.str o.s = V.str "null") := by cases o <;> decide +kernel
      have n2 : ¬ (V.str o.s = V.str "name") := by cases o <;> decide +kernel
      have n3 : ¬ (V.str o.s = V.str "num") := by cases o <;> decide +kernel
      have n4 : ¬ (V.str o.s = V.str "flag") := by cases o <;> decide +kernel
      have n5 : ¬ (V.str o.s = V.str "not") := by cases o <;> decide +kernel
      have ea := ev_bd hρ ho.1
      have eb := ev_bd hρ ho.2
      have el := Eb_le (m := m) (by omega)
      refine ⟨_, rfl, p, _, _, _, rfl, rfl, hp, rfl, _, rfl, rfl, _, rfl, ifF (decide_eq_false n1) ?_⟩
      refine ⟨_, rfl, rfl, _, rfl, ifF (decide_eq_false n2) ?_⟩
      refine ⟨_, rfl, rfl, _, rfl, ifF (decide_eq_false n3) ⟨_, rfl, rfl, _, rfl, ifF (decide_eq_false n4) ?_⟩⟩
      refine ⟨_, rfl, p, _, _, _, rfl, rfl, hp, rfl, _, rfl, x, d, a, S, ρ, kvs, rfl, hx, ho.1, hd, hv.1, hρ, fun H1 s1 => ?_⟩
      refine ⟨_, rfl, rfl, _, rfl, ifF (decide_eq_false n5) ?_⟩
      have hp1 := Same.tup s1 hp
      refine ⟨_, rfl, p, _, _, _, rfl, rfl, hp1, rfl, _, rfl, y, d, b, S, ρ, kvs, rfl, hy.same s1, ho.2, s1 _ _ hd, hv.2, hρ, fun H2 s2 => ?_⟩
      have s12 := s1.trans s2
      refine ⟨_, rfl, by show 3 ≤ sizeLine; decide, fun l hl => ⟨l, _, rfl, .inl (SqL.of upd_same), rfl, rfl, _, rfl, ?_⟩⟩
      have s3 := Same.new hl (.lst [.str "+", .str "-", .str "*"])
      have s13 := s12.trans s3
      refine ifT (by cases o <;> decide +kernel) ?_
      generalize ei : evE ρ a = i at *
      generalize ej : evE ρ b = j at *
      have eq1 : evE ρ (.bin o a b) = o.ap i j := by
        show o.ap (evE ρ a) (evE ρ b) = _
        rw [ei, ej]
      rw [eq1] at q
      refine ⟨_, rfl, _, rfl, i, j, rfl, rfl, _, rfl, _, rfl, i, j, rfl, rfl, _, rfl, _, rfl, i, j, rfl, rfl, mulW ea eb (by omega) (by omega), by show 3 ≤ sizeLine; decide, fun l2 hl2 => ?_⟩
      have s4 := Same.new hl2 (.lst [.int (i + j), .int (i - j), .int (i * j)])
      refine ⟨by show 3 ≤ sizeLine; decide, fun l3 hl3 => ⟨.inl ⟨rfl, _, SqL.of upd_same⟩, _, rfl, ?_⟩⟩
      have s5 := Same.new hl3 (.lst [.str "+", .str "-", .str "*"])
      have sE := s13.trans (s4.trans s5)
      have hl2' := s5 _ _ (upd_same (H := upd H2 l (.lst [.str "+", .str "-", .str "*"])) (a := l2) (o := .lst [.int (i + j), .int (i - j), .int (i * j)]))
      cases o with
      | add =>
        refine ⟨l3, _, _, 0, _, rfl, rfl, SqL.of upd_same, rfl, rfl, rfl, by decide +kernel, fun m' z' hm' _ => by omega, ?_⟩
        exact ⟨l2, _, 0, _, rfl, rfl, SqL.of hl2', rfl, q _ sE⟩
      | sub =>
        refine ⟨l3, _, _, 1, _, rfl, rfl, SqL.of upd_same, rfl, rfl, rfl, by decide +kernel, fun m' z' hm' hz => ?_, ?_⟩
        · obtain rfl : m' = 0 := by omega
          cases hz
          decide +kernel
        · exact ⟨l2, _, 1, _, rfl, rfl, SqL.of hl2', rfl, q _ sE⟩
      | mul =>
        refine ⟨l3, _, _, 2, _, rfl, rfl, SqL.of upd_same, rfl, rfl, rfl, by decide +kernel, fun m' z' hm' hz => ?_, ?_⟩
        · have hm2 : m' = 0 ∨ m' = 1 := by omega
          rcases hm2 with rfl | rfl
          · cases hz
            decide +kernel
          · cases hz
            decide +kernel
        · exact ⟨l2, _, 2, _, rfl, rfl, SqL.of hl2', rfl, q _ sE⟩
end
/-! ### law k23: the law's own form: a table that walks the expression with a factor -/
theorem spr_is {cs : List Int} {lo hi L G : Int} {Ps : List (List Int)} (h1 : ¬ IsD cs → L = spanLo (hullM cs.length Ps) cs lo ∧ G = spanHi (hullM cs.length Ps) cs hi) (h2 : IsD cs → DMM cs lo hi Ps L G) : L = lowF cs lo Ps ∧ G = highF cs hi Ps := by
  unfold lowF highF
  by_cases d : IsD cs
  · rw [if_pos d, if_pos d]
    obtain ⟨⟨⟨p1, m1, e1⟩, b1⟩, ⟨p2, m2, e2⟩, b2⟩ := h2 d
    rw [minV_is (m := val cs p1) ⟨p1, m1, rfl⟩ (fun p hp => by have := b1 p hp; omega), maxV_is (m := val cs p2) ⟨p2, m2, rfl⟩ (fun p hp => by have := b2 p hp; omega)]
    exact ⟨e1, e2⟩
  · rw [if_neg d, if_neg d]
    exact h1 d
structure Env23 (H : Hp) (dk nl p : Addr) (kvs : List (Key × V)) (N S : List Str) (κ : Str → Int) (n : Nat) (Ps : List (List Int)) : Prop where
  d : H dk = some (.dK kvs)
  k : ∀ z ∈ S, z ∉ N → valV kvs (Sum.inr z) = some (.int (κ z))
  b : ∀ z, -1000000000000 ≤ κ z ∧ κ z ≤ 1000000000000
  nm : H nl = some (.lst (N.map V.str))
  ln : N.length ≤ n
  p : TPts H p Ps
  ne : Ps ≠ []
  lp : Ps.length ≤ 1000
  lr : ∀ r ∈ Ps, r.length = n
  pb : PtB Ps
  hn : n ≤ 20
theorem Env23.same {H H' : Hp} {dk nl p : Addr} {kvs : List (Key × V)} {N S : List Str} {κ : Str → Int} {n : Nat} {Ps : List (List Int)} (s : Same H H') (h : Env23 H dk nl p kvs N S κ n Ps) : Env23 H' dk nl p kvs N S κ n Ps :=
  ⟨s _ _ h.d, h.k, h.b, s _ _ h.nm, h.ln, h.p.same s, h.ne, h.lp, h.lr, h.pb, h.hn⟩
theorem ev_at {kvs : List (Key × V)} {N S : List Str} {κ : Str → Int} (hk : ∀ z ∈ S, z ∉ N → valV kvs (Sum.inr z) = some (.int (κ z))) : ∀ {m : Nat} {e : Ef}, e.ok S m → occ N e = false → EvAt kvs κ e
  | 0, _, h, _ => h.elim
  | _ + 1, .num _, _, _ => trivial
  | _ + 1, .var z, h, o => hk z h (of_decide_eq_false o)
  | _ + 1, .bin _ a b, h, o => have o := Bool.or_eq_false_iff.mp o; ⟨ev_at hk h.1 o.1, ev_at hk h.2 o.2⟩
def TbAt (H : Hp) (t r : Addr) (n : Nat) (F : Fm) : Prop := t ≠ r ∧ H t = some (.lst [.ref r, .int F.lo, .int F.hi]) ∧ H r = some (.lst ((mkR n F.c).map V.int))
def Tbk (t r : Addr) (H H' : Hp) : Prop := ∀ b o, b ≠ t → b ≠ r → H b = some o → H' b = some o
theorem Tbk.trans {t r : Addr} {H H1 H2 : Hp} (x : Tbk t r H H1) (y : Tbk t r H1 H2) : Tbk t r H H2 := fun b o h1 h2 e => y b o h1 h2 (x b o h1 h2 e)
theorem Tbk.of {t r : Addr} {H H1 : Hp} (s : Same H H1) : Tbk t r H H1 := fun b o _ _ e => s b o e
theorem TbAt.same {H H' : Hp} {t r : Addr} {n : Nat} {F : Fm} (s : Same H H') (h : TbAt H t r n F) : TbAt H' t r n F := ⟨h.1, s _ _ h.2.1, s _ _ h.2.2⟩
theorem Tbk.keep {K : PySem.W.Frag} {t r : Addr} {H H' : Hp} {n : Nat} {F : Fm} (x : Tbk t r H H') (h : TbAt H t r n F) : KeepT K H H' := by
  intro p xs hp
  have ne : ∀ {u : HO}, H p = some u → (∀ ys, u ≠ .lst ys) → p ≠ t ∧ p ≠ r := fun e n => ⟨fun z => by rw [z, h.2.1] at e; exact n _ (Option.some.inj e).symm, fun z => by rw [z, h.2.2] at e; exact n _ (Option.some.inj e).symm⟩
  rcases hp with (q | ⟨o', q⟩) | q
  · exact .inl (.inl (x _ _ (ne q (fun _ z => nomatch z)).1 (ne q (fun _ z => nomatch z)).2 q))
  · exact .inl (.inr ⟨o', x _ _ (ne q (fun _ z => nomatch z)).1 (ne q (fun _ z => nomatch z)).2 q⟩)
  · exact .inr q
theorem Env23.tbk {H H' : Hp} {dk nl p t r : Addr} {kvs : List (Key × V)} {N S : List Str} {κ : Str → Int} {n : Nat} {Ps : List (List Int)} {F : Fm} (x : Tbk t r H H') (hT : TbAt H t r n F) (nr : nl ≠ r) (h : Env23 H dk nl p kvs N S κ n Ps) : Env23 H' dk nl p kvs N S κ n Ps := by
  have ne : ∀ {q : Addr} {u : HO}, H q = some u → (∀ ys, u ≠ .lst ys) → q ≠ t ∧ q ≠ r := fun {q u} e n => ⟨fun z => by rw [z, hT.2.1] at e; exact n _ (Option.some.inj e).symm, fun z => by rw [z, hT.2.2] at e; exact n _ (Option.some.inj e).symm⟩
  obtain ⟨as, hp, ha⟩ := h.p
  have las : as ≠ [] := fun z => by
    have := ha.1
    rw [z] at this
    exact h.ne (List.length_eq_zero_iff.mp this.symm)
  refine ⟨?_, h.k, h.b, ?_, h.ln, ⟨as, ?_, ha.1, fun i b q e1 e2 => ?_⟩, h.ne, h.lp, h.lr, h.pb, h.hn⟩
  · have := ne h.d (fun _ z => nomatch z)
    exact x _ _ this.1 this.2 h.d
  · refine x _ _ (fun z => ?_) nr h.nm
    have e := h.nm
    rw [z, hT.2.1] at e
    have e := HO.lst.inj (Option.some.inj e)
    cases N with
    | nil => cases e
    | cons a b => rw [List.map_cons] at e; cases e
  · refine x _ _ (fun z => ?_) (fun z => ?_) hp
    · rw [z, hT.2.1] at hp
      have e := HO.lst.inj (Option.some.inj hp)
      match as, e with
      | [], e => cases e
      | [_], e => cases e
      | _ :: _ :: _, e => rw [List.map_cons, List.map_cons] at e; cases e
    · rw [z, hT.2.2] at hp
      have e := HO.lst.inj (Option.some.inj hp)
      cases as with
      | nil => exact las rfl
      | cons a b =>
        rw [List.map_cons] at e
        cases h2 : (mkR n F.c) with
        | nil => rw [h2] at e; cases e
        | cons u v => rw [h2, List.map_cons] at e; cases e
  · have e3 := ha.2 i b q e1 e2
    have := ne e3 (fun _ z => nomatch z)
    exact x _ _ this.1 this.2 e3
def spAdd23 (K : PySem.W.Frag) (m : Nat) : Sp := fun vs H Q _ => ∃ (t r dk nl p : Addr) (v : V) (c : Int) (ec : Nat) (F : Fm) (e : Ef) (kvs : List (Key × V)) (N S : List Str) (κ : Str → Int) (n : Nat) (Ps : List (List Int)), vs = [.ref t, v, .int c, .ref dk, .ref nl, .ref p] ∧ Env23 H dk nl p kvs N S κ n Ps ∧
  TbAt H t r n F ∧ nl ≠ r ∧ EfAt K H e v ∧ e.ok S m ∧ Bd ec c ∧ ec + Eb m ≤ 60000 ∧ ∀ H', Tbk t r H H' → TbAt H' t r n (tb N κ n Ps F e c) → Q .non H'
def spForm23 (K : PySem.W.Frag) (m : Nat) : Sp := fun vs H Q _ => ∃ (dk nl p : Addr) (v : V) (e : Ef) (kvs : List (Key × V)) (N S : List Str) (κ : Str → Int) (n : Nat) (Ps : List (List Int)), vs = [v, .ref dk, .ref nl, .ref p] ∧ Env23 H dk nl p kvs N S κ n Ps ∧ EfAt K H e v ∧ e.ok S m ∧
  ∀ f H', Same H H' → FmAt K H' f n (fm N κ n Ps e) → Q (.ref f) H'
def spCor23 (K : PySem.W.Frag) (m : Nat) : Sp := fun vs H Q _ => ∃ (dk nl p : Addr) (v : V) (a b : Ef) (kvs : List (Key × V)) (N S : List Str) (κ : Str → Int) (n : Nat) (Ps : List (List Int)), vs = [v, .ref dk, .ref nl, .ref p] ∧ Env23 H dk nl p kvs N S κ n Ps ∧ EfAt K H (.bin .mul a b) v ∧ a.ok S m ∧ b.ok S m ∧
  ∀ l H' a1 b1 a2 b2, Same H H' → a1 = (fm N κ n Ps a).low n Ps → b1 = (fm N κ n Ps a).high n Ps → a2 = (fm N κ n Ps b).low n Ps → b2 = (fm N κ n Ps b).high n Ps → H' l = some (.lst [.int (a1 * a2), .int (a1 * b2), .int (b1 * a2), .int (b1 * b2)]) → Q (.ref l) H'
theorem mkR_set {n i : Nat} {f g : Nat → Int} {v : Int} (hi : i < n) (h : ∀ k, k < n → g k = if k = i then v else f k) : (mkR n f).set i v = mkR n g := by
  refine List.ext_getElem? fun k => ?_
  by_cases hk : k < n
  · rw [mkR_at hk, h k hk]
    by_cases e : k = i
    · subst e
      rw [if_pos rfl, List.getElem?_set_self (by rw [mkR_len]; exact hk)]
    · rw [if_neg e, List.getElem?_set_ne (fun z => e z.symm), mkR_at hk]
  · rw [List.getElem?_eq_none (by rw [List.length_set, mkR_len]; omega), List.getElem?_eq_none (by rw [mkR_len]; omega)]
section
variable {P : Program} {w : World} {K : PySem.W.Frag} {mg : Str → Option Value} {base : Heap}
theorem ok_l_corners (T : Txt w K mg) {m k : Nat} (hm : m ≤ 7) (g_l_form : FnOk P w K mg base CX0 k T.a_l_form T.d_l_form p_l_form (spForm23 K m)) : FnOk P w K mg base CX0 (k + 2) T.a_l_corners T.d_l_corners p_l_corners (spCor23 K m) := by
  have g_l_spread := ok_l_spread (P := P) (w := w) (K := K) (base := base) T
  refine T.F_l_corners.ok sc_l_corners (fun vs H Q E h => ?_) (fun cdv A outer s H vs Q E hr h => ?_)
  · obtain ⟨dk, nl, p, v, a, b, kvs, N, S, κ, n, Ps, rfl, _⟩ := h
    rfl
  obtain ⟨dk, nl, p, v, a, b, kvs, N, S, κ, n, Ps, rfl, en, hx, oa, ob, q⟩ := h
  refine ⟨_, (pss_cons (ps_set (i := 4) sc_l_corners.nd rfl (Or.inl rfl) (pe_call g_l_spread (hr.mono (by first | decide | omega)) rfl T.m_l_spread T.F_l_spread.kp T.b_l_spread .nil pass0 (pa_cons (pe_call g_l_form (hr.mono (by first | decide | omega)) rfl T.m_l_form T.F_l_form.kp T.b_l_form .nil pass0 (pa_cons (pe_ix ix_tup (pv 0) pe_int (fun _ _ => rfl)) (pa_cons (pv 1) (pa_cons (pv 2) (pa_cons (pv 3) pa_nil))))) (pa_cons (pv 3) pa_nil))))
      (pss_cons (ps_set (i := 5) sc_l_corners.nd rfl (Or.inl rfl) (pe_call g_l_spread (hr.mono (by first | decide | omega)) rfl T.m_l_spread T.F_l_spread.kp T.b_l_spread .nil pass0 (pa_cons (pe_call g_l_form (hr.mono (by first | decide | omega)) rfl T.m_l_form T.F_l_form.kp T.b_l_form .nil pass0 (pa_cons (pe_ix ix_tup (pv 0) pe_int (fun _ _ => rfl)) (pa_cons (pv 1) (pa_cons (pv 2) (pa_cons (pv 3) pa_nil))))) (pa_cons (pv 3) pa_nil))))
      (pss_one (ps_ret (pe_lst (pa_cons (pe_op op_mulW (pe_ix ix_tup (pv 4) pe_int (fun _ _ => rfl)) (pe_ix ix_tup (pv 5) pe_int (fun _ _ => rfl))) (pa_cons (pe_op op_mulW (pe_ix ix_tup (pv 4) pe_int (fun _ _ => rfl)) (pe_ix ix_tup (pv 5) pe_int (fun _ _ => rfl))) (pa_cons (pe_op op_mulW (pe_ix ix_tup (pv 4) pe_int (fun _ _ => rfl)) (pe_ix ix_tup (pv 5) pe_int (fun _ _ => rfl))) (pa_cons (pe_op op_mulW (pe_ix ix_tup (pv 4) pe_int (fun _ _ => rfl)) (pe_ix ix_tup (pv 5) pe_int (fun _ _ => rfl))) pa_nil))))))))), ?_⟩
  obtain ⟨t, x, y, rfl, ht, hx, hy⟩ := hx
  refine ⟨_, rfl, t, _, _, _, rfl, rfl, ht, rfl, _, rfl, _, rfl, _, rfl, dk, nl, p, x, a, kvs, N, S, κ, n, Ps, rfl, en, hx, oa, fun f H1 s1 hf => ?_⟩
  have ln : ∀ G : Fm, (mkR n G.c).length = n := fun G => mkR_len
  have en1 := en.same s1
  refine ⟨_, rfl, f, p, mkR n (fm N κ n Ps a).c, _, _, Ps, rfl, hf, en.pb, by rw [ln]; exact en.hn, en1.p, en.ne, en.lp, fun r hr => by rw [ln]; exact en.lr r hr, fun t1 H2 L1 G1 s2 ht1 d1 d2 => ?_⟩
  obtain ⟨e1, e2⟩ := spr_is d1 d2
  have s12 := s1.trans s2
  refine ⟨_, rfl, t, _, _, _, rfl, rfl, Same.tup s12 ht, rfl, _, rfl, _, rfl, _, rfl, dk, nl, p, y, b, kvs, N, S, κ, n, Ps, rfl, en.same s12, hy.same s12, ob, fun g H3 s3 hg => ?_⟩
  have s13 := s12.trans s3
  have en3 := en.same s13
  refine ⟨_, rfl, g, p, mkR n (fm N κ n Ps b).c, _, _, Ps, rfl, hg, en.pb, by rw [ln]; exact en.hn, en3.p, en.ne, en.lp, fun r hr => by rw [ln]; exact en.lr r hr, fun t2 H4 L2 G2 s4 ht2 d3 d4 => ?_⟩
  obtain ⟨e3, e4⟩ := spr_is d3 d4
  have hκ : Kok S N κ := fun z _ _ => en.b z
  have hn : n ≤ 60 := by have := en.hn; omega
  have b1 := low_bd en.ne en.pb hn (fm_bd (n := n) en.ne en.pb hn hκ oa)
  have b2 := low_bd en.ne en.pb hn (fm_bd (n := n) en.ne en.pb hn hκ ob)
  rw [show (fm N κ n Ps a).low n Ps = L1 from e1.symm, show (fm N κ n Ps a).high n Ps = G1 from e2.symm] at b1
  rw [show (fm N κ n Ps b).low n Ps = L2 from e3.symm, show (fm N κ n Ps b).high n Ps = G2 from e4.symm] at b2
  have el := Eb_le (m := m) (by omega)
  have h1 : SqT K H4 t1 [.int L1, .int G1] := SqT.of (s4 _ _ (s3 _ _ ht1))
  have h2 : SqT K H4 t2 [.int L2, .int G2] := SqT.of ht2
  refine ⟨_, rfl, t1, _, _, _, rfl, rfl, h1, rfl, _, rfl, t2, _, _, _, rfl, rfl, h2, rfl, _, _, rfl, rfl, mulW b1.1 b2.1 (by omega) (by omega), ?_⟩
  refine ⟨_, rfl, t1, _, _, _, rfl, rfl, h1, rfl, _, rfl, t2, _, _, _, rfl, rfl, h2, rfl, _, _, rfl, rfl, mulW b1.1 b2.2 (by omega) (by omega), ?_⟩
  refine ⟨_, rfl, t1, _, _, _, rfl, rfl, h1, rfl, _, rfl, t2, _, _, _, rfl, rfl, h2, rfl, _, _, rfl, rfl, mulW b1.2 b2.1 (by omega) (by omega), ?_⟩
  refine ⟨_, rfl, t1, _, _, _, rfl, rfl, h1, rfl, _, rfl, t2, _, _, _, rfl, rfl, h2, rfl, _, _, rfl, rfl, mulW b1.2 b2.2 (by omega) (by omega), by show 4 ≤ sizeLine; decide, fun l hl => ?_⟩
  exact q l _ L1 G1 L2 G2 ((s13.trans s4).trans (Same.new hl _)) e1 e2 e3 e4 upd_same
theorem ok_l_form (T : Txt w K mg) {m k : Nat} (hm : m ≤ 8) (g_l_add : FnOk P w K mg base CX0 k T.a_l_add T.d_l_add p_l_add (spAdd23 K m)) : FnOk P w K mg base CX0 (k + 1) T.a_l_form T.d_l_form p_l_form (spForm23 K m) := by
  refine T.F_l_form.ok sc_l_form (fun vs H Q E h => ?_) (fun cdv A outer s H vs Q E hr h => ?_)
  · obtain ⟨dk, nl, p, v, e, kvs, N, S, κ, n, Ps, rfl, _⟩ := h
    rfl
  obtain ⟨dk, nl, p, v, e, kvs, N, S, κ, n, Ps, rfl, en, hx, oe, q⟩ := h
  refine ⟨_, (pss_cons (ps_set (i := 4) sc_l_form.nd rfl (Or.inl rfl) (pe_lst (pa_cons (pe_op op_rep (pe_lst (pa_cons pe_int pa_nil)) (pe_callB call_len_seq rfl T.z_len PySem.boot_len (pa_cons (pe_ix ix_list (pv 3) pe_int (fun _ _ => rfl)) pa_nil))) (pa_cons pe_int (pa_cons pe_int pa_nil)))))
      (pss_cons (ps_expr (pe_call g_l_add (hr.mono (by first | decide | omega)) rfl T.m_l_add T.F_l_add.kp T.b_l_add .nil pass0 (pa_cons (pv 4) (pa_cons (pv 0) (pa_cons pe_int (pa_cons (pv 1) (pa_cons (pv 2) (pa_cons (pv 3) pa_nil))))))))
      (pss_one (ps_ret (pe_tup (pa_cons (pe_callTy call_tuple_of rfl T.z_tuple bt_tuple (pa_cons (pe_ix ix_list (pv 4) pe_int (fun _ _ => rfl)) pa_nil)) (pa_cons (pe_ix ix_list (pv 4) pe_int (fun _ _ => rfl)) (pa_cons (pe_ix ix_list (pv 4) pe_int (fun _ _ => rfl)) pa_nil)))))))), ?_⟩
  obtain ⟨as, hp, ha⟩ := en.p
  have las : 0 < as.length := by rw [ha.1]; exact List.length_pos_iff.mpr en.ne
  have f1 : as[0]? = some as[0] := List.getElem?_eq_getElem las
  have f2 : Ps[0]? = some (Ps[0]'(by rw [← ha.1]; exact las)) := List.getElem?_eq_getElem _
  have g1 := ha.2 0 _ _ f1 f2
  have lr := en.lr _ (List.mem_of_getElem? f2)
  generalize as[0] = a0 at f1 g1
  generalize (Ps[0]'(by rw [← ha.1]; exact las)) = r0 at f2 g1 lr
  have hn := en.hn
  refine ⟨(by show 1 ≤ sizeLine; decide), fun l0 hl0 => ?_⟩
  have s0 := Same.new hl0 (.lst [.int 0])
  have h00 : (upd H l0 (.lst [.int 0])) l0 = some (.lst [.int 0]) := upd_same
  refine ⟨_, rfl, p, _, 0, _, rfl, rfl, SqL.of (s0 _ _ hp), atI_nat (j := 0) (map_get f1), a0, _, rfl, .inr (SqT.of (s0 _ _ g1)), ?_⟩
  have ly : (r0.map V.int).length = n := by rw [List.length_map, lr]
  rw [ly]
  refine ⟨l0, n, _, rfl, rfl, h00, by omega, by omega, (by rw [sizeLine_eq]; show 1 * (n : Int).toNat ≤ _; omega), fun l1 hl1 => ?_⟩
  rw [Int.toNat_natCast, rep0]
  have s1 := Same.new hl1 (.lst ((mkR n fun _ => (0 : Int)).map V.int))
  refine ⟨by show 3 ≤ sizeLine; decide, fun t ht => ?_⟩
  have s2 := Same.new ht (.lst [.ref l1, .int 0, .int 0])
  have s02 := (s0.trans s1).trans s2
  have hl1' := s2 _ _ (show (upd (upd H l0 (.lst [.int 0])) l1 (.lst ((mkR n fun _ => (0 : Int)).map V.int))) l1 = some (.lst ((mkR n fun _ => (0 : Int)).map V.int)) from upd_same)
  have nt1 : t ≠ l1 := fun z => by
    rw [z, upd_same] at ht
    cases ht
  have tb0 : TbAt (upd (upd (upd H l0 (.lst [.int 0])) l1 (.lst ((mkR n fun _ => (0 : Int)).map V.int))) t (.lst [.ref l1, .int 0, .int 0])) t l1 n (.con 0) := ⟨nt1, upd_same, hl1'⟩
  have h1n : H l1 = none := by
    cases e1 : H l1 with
    | none => rfl
    | some o => rw [s0 _ _ e1] at hl1; cases hl1
  have htn : H t = none := by
    cases e1 : H t with
    | none => rfl
    | some o => rw [s1 _ _ (s0 _ _ e1)] at ht; cases ht
  refine ⟨_, rfl, _, rfl, _, rfl, _, rfl, _, rfl, t, l1, dk, nl, p, v, 1, 1, .con 0, e, kvs, N, S, κ, n, Ps, rfl, en.same s02, tb0, (fun z => by rw [← z, en.nm] at h1n; cases h1n), hx.same s02, oe, by show (1 : Nat) < 2; decide, by have := Eb_le (m := m) hm; omega, fun H5 k5 tb5 => ?_⟩
  have ef : tb N κ n Ps (.con 0) e 1 = fm N κ n Ps e := by
    unfold tb
    rw [times_one (fm_le e)]
    exact Fm.eq (fun k => Int.zero_add _) (Int.zero_add _) (Int.zero_add _)
  rw [ef] at tb5
  refine ⟨_, rfl, t, _, 0, _, rfl, rfl, SqL.of tb5.2.1, rfl, l1, _, rfl, .inl ⟨SqL.of tb5.2.2, fun l hl => ?_⟩⟩
  have s6 := Same.new hl (.tup ((mkR n (fm N κ n Ps e).c).map V.int))
  have t6 := tb5.same s6
  refine ⟨_, rfl, t, _, 1, _, rfl, rfl, SqL.of t6.2.1, rfl, _, rfl, t, _, 2, _, rfl, rfl, SqL.of t6.2.1, rfl, by show 3 ≤ sizeLine; decide, fun f hf => ?_⟩
  have s7 := Same.new hf (.tup [.ref l, .int (fm N κ n Ps e).lo, .int (fm N κ n Ps e).hi])
  refine q f _ (fun b o eb => s7 _ _ (s6 _ _ (k5 b o (ne_of_none eb htn) (ne_of_none eb h1n) (s02 _ _ eb)))) ⟨l, SqT.of upd_same, SqT.of (s7 _ _ upd_same)⟩
end
theorem Ef.ok.up {S : List Str} : ∀ {m : Nat} {e : Ef}, e.ok S m → e.ok S (m + 1)
  | 0, _, h => h.elim
  | _ + 1, .num _, h => h
  | _ + 1, .var _, h => h
  | _ + 1, .bin _ _ _, h => ⟨h.1.up, h.2.up⟩
theorem ixN_at {n j : Nat} (hj : j < n) : ixN n (j : Int) = some j := by
  unfold ixN
  rw [if_pos (by omega)]
  simp [hj]
theorem mn4 {a b c d m : Int} (hm : m ∈ [a, b, c, d]) (hx : ∀ y, y ∈ [a, b, c, d] → m ≤ y) : m = min4 a b c d := by
  have x1 := hx a (by simp)
  have x2 := hx b (by simp)
  have x3 := hx c (by simp)
  have x4 := hx d (by simp)
  simp only [List.mem_cons, List.not_mem_nil, or_false] at hm
  unfold min4
  omega
theorem mx4 {a b c d m : Int} (hm : m ∈ [a, b, c, d]) (hx : ∀ y, y ∈ [a, b, c, d] → y ≤ m) : m = max4 a b c d := by
  have x1 := hx a (by simp)
  have x2 := hx b (by simp)
  have x3 := hx c (by simp)
  have x4 := hx d (by simp)
  simp only [List.mem_cons, List.not_mem_nil, or_false] at hm
  unfold max4
  omega
theorem Bd.neg {e : Nat} {x : Int} (h : Bd e x) : Bd e (-x) := bd_neg h
section
variable {P : Program} {w : World} {K : PySem.W.Frag} {mg : Str → Option Value} {base : Heap}
theorem ok_l_add (T : Txt w K mg) : ∀ m : Nat, m ≤ 8 → FnOk P w K mg base CX0 (4 * m + 12) T.a_l_add T.d_l_add p_l_add (spAdd23 K m)
  | 0, _ => fn_vac fun vs H Q E h => by obtain ⟨t, r, dk, nl, p, v, c, ec, F, e, kvs, N, S, κ, n, Ps, _, _, _, _, _, h, _⟩ := h; exact h
  | m + 1, hm => by
    have g_l_add := ok_l_add T m (by omega)
    have g_l_corners := ok_l_corners T (m := m) (by omega) (ok_l_form T (by omega) g_l_add)
    have g_l_has := ok_l_has (P := P) (w := w) (K := K) (base := base) T (m + 1) (by omega)
    have g_l_value := ok_l_value (P := P) (w := w) (K := K) (base := base) T (m + 1) (by omega)
    show FnOk P w K mg base CX0 (4 * m + 15 + 1) T.a_l_add T.d_l_add p_l_add (spAdd23 K (m + 1))
    refine T.F_l_add.ok sc_l_add (fun vs H Q E h => ?_) (fun cdv A outer s H vs Q E hr h => ?_)
    · obtain ⟨t, r, dk, nl, p, v, c, ec, F, e, kvs, N, S, κ, n, Ps, rfl, _⟩ := h
      rfl
    obtain ⟨t, r, dk, nl, p, v, c, ec, F, e, kvs, N, S, κ, n, Ps, rfl, en, hT, nr, hx, oe, bc, lc, q⟩ := h
    refine ⟨_, (pss_cons (ps_set (i := 6) sc_l_add.nd rfl (Or.inl rfl) (pe_ix ix_tup (pv 1) pe_int (fun _ _ => rfl)))
      (pss_one (ps_if (PW.pt (pw_and (pt_cmpR op_eq (pv 6) pe_str (nomark _)) (pw_and1 (pt_cmpR op_in_seq (pe_ix ix_tup (pv 1) pe_int (fun _ _ => rfl)) (pv 4) (by rfl))))) (pss_cons (ps_set (i := 7) sc_l_add.nd rfl (Or.inl rfl) (pe_ix ix_list (pv 0) pe_int (fun _ _ => rfl)))
      (pss_cons (ps_set (i := 8) sc_l_add.nd rfl (Or.inl rfl) (pe_bm PySem.F.plainAttrs_list PySem.F.slot_list_index PySem.F.type_list_index mt_index (pv 4) (pa_cons (pe_ix ix_tup (pv 1) pe_int (fun _ _ => rfl)) pa_nil)))
      (pss_one (ps_asg (pe_op op_add (pe_ix ix_list (pv 7) (pv 8) (fun _ _ => rfl)) (pv 2)) (pg_sub (pv 7) (pv 8) set_list))))) (pss_one (ps_if (pt_not (pt_val (pe_call g_l_has (hr.mono (by first | decide | omega)) rfl T.m_l_has T.F_l_has.kp T.b_l_has .nil pass0 (pa_cons (pv 1) (pa_cons (pv 4) pa_nil))))) (pss_cons (ps_set (i := 9) sc_l_add.nd rfl (Or.inl rfl) (pe_op op_mulW (pv 2) (pe_call g_l_value (hr.mono (by first | decide | omega)) rfl T.m_l_value T.F_l_value.kp T.b_l_value .nil pass0 (pa_cons (pv 1) (pa_cons (pv 3) pa_nil)))))
      (pss_cons (ps_asg (pe_op op_add (pe_ix ix_list (pv 0) pe_int (fun _ _ => rfl)) (pv 9)) (pg_sub (pv 0) pe_int set_list))
      (pss_one (ps_asg (pe_op op_add (pe_ix ix_list (pv 0) pe_int (fun _ _ => rfl)) (pv 9)) (pg_sub (pv 0) pe_int set_list))))) (pss_one (ps_if (PW.pt (pw_or (pt_cmpR op_eq (pv 6) pe_str (nomark _)) (pw_or1 (pt_cmpR op_eq (pv 6) pe_str (nomark _))))) (pss_cons (ps_expr (pe_call g_l_add (hr.mono (by first | decide | omega)) rfl T.m_l_add T.F_l_add.kp T.b_l_add .nil pass0 (pa_cons (pv 0) (pa_cons (pe_ix ix_tup (pv 1) pe_int (fun _ _ => rfl)) (pa_cons (pv 2) (pa_cons (pv 3) (pa_cons (pv 4) (pa_cons (pv 5) pa_nil))))))))
      (pss_one (ps_expr (pe_call g_l_add (hr.mono (by first | decide | omega)) rfl T.m_l_add T.F_l_add.kp T.b_l_add .nil pass0 (pa_cons (pv 0) (pa_cons (pe_ix ix_tup (pv 1) pe_int (fun _ _ => rfl)) (pa_cons (pe_ix ix_list (pe_lst (pa_cons (pv 2) (pa_cons (pe_un un_neg (pv 2)) pa_nil))) (pe_callTy call_int1 rfl T.z_int bt_int (pa_cons (pe_cmpR op_eq (pv 6) pe_str (nomark _)) pa_nil)) (fun _ _ => rfl)) (pa_cons (pv 3) (pa_cons (pv 4) (pa_cons (pv 5) pa_nil)))))))))) (pss_one (ps_if (pt_not (pt_val (pe_call g_l_has (hr.mono (by first | decide | omega)) rfl T.m_l_has T.F_l_has.kp T.b_l_has .nil pass0 (pa_cons (pe_ix ix_tup (pv 1) pe_int (fun _ _ => rfl)) (pa_cons (pv 4) pa_nil))))) (pss_one (ps_expr (pe_call g_l_add (hr.mono (by first | decide | omega)) rfl T.m_l_add T.F_l_add.kp T.b_l_add .nil pass0 (pa_cons (pv 0) (pa_cons (pe_ix ix_tup (pv 1) pe_int (fun _ _ => rfl)) (pa_cons (pe_op op_mulW (pv 2) (pe_call g_l_value (hr.mono (by first | decide | omega)) rfl T.m_l_value T.F_l_value.kp T.b_l_value .nil pass0 (pa_cons (pe_ix ix_tup (pv 1) pe_int (fun _ _ => rfl)) (pa_cons (pv 3) pa_nil)))) (pa_cons (pv 3) (pa_cons (pv 4) (pa_cons (pv 5) pa_nil))))))))) (pss_one (ps_if (pt_not (pt_val (pe_call g_l_has (hr.mono (by first | decide | omega)) rfl T.m_l_has T.F_l_has.kp T.b_l_has .nil pass0 (pa_cons (pe_ix ix_tup (pv 1) pe_int (fun _ _ => rfl)) (pa_cons (pv 4) pa_nil))))) (pss_one (ps_expr (pe_call g_l_add (hr.mono (by first | decide | omega)) rfl T.m_l_add T.F_l_add.kp T.b_l_add .nil pass0 (pa_cons (pv 0) (pa_cons (pe_ix ix_tup (pv 1) pe_int (fun _ _ => rfl)) (pa_cons (pe_op op_mulW (pv 2) (pe_call g_l_value (hr.mono (by first | decide | omega)) rfl T.m_l_value T.F_l_value.kp T.b_l_value .nil pass0 (pa_cons (pe_ix ix_tup (pv 1) pe_int (fun _ _ => rfl)) (pa_cons (pv 3) pa_nil)))) (pa_cons (pv 3) (pa_cons (pv 4) (pa_cons (pv 5) pa_nil))))))))) (pss_cons (ps_set (i := 10) sc_l_add.nd rfl (Or.inl rfl) (pe_call g_l_corners (hr.mono (by first | decide | omega)) rfl T.m_l_corners T.F_l_corners.kp T.b_l_corners .nil pass0 (pa_cons (pv 1) (pa_cons (pv 3) (pa_cons (pv 4) (pa_cons (pv 5) pa_nil))))))
      (pss_cons (ps_setLc (i := 11) (own := [("_law_end", 12)]) (g := gName 12) (tt := tYes) rfl sc_l_add.nd rfl rfl (sw_true rfl rfl rfl (by decide +kernel)) (pi_list (pv 10)) (blkOk_by (own := [("_law_end", 12)]) (N := n_l_add) (sc := defScope s_l_add) (by decide +kernel)) (fun _ _ _ _ _ => (pg_name (i := 12) sc_l_add.nd rfl (Or.inl rfl))) (fun _ _ _ _ _ => pts_nil) (fun _ _ _ _ _ => (pe_op op_mulW (pv 2) (pv 12))))
      (pss_cons (ps_asg (pe_op op_add (pe_ix ix_list (pv 0) pe_int (fun _ _ => rfl)) (pe_callB (cr_min rfl) rfl T.z_min bb_min (pa_cons (pv 11) pa_nil))) (pg_sub (pv 0) pe_int set_list))
      (pss_one (ps_asg (pe_op op_add (pe_ix ix_list (pv 0) pe_int (fun _ _ => rfl)) (pe_callB (cr_max rfl) rfl T.z_max bb_max (pa_cons (pv 11) pa_nil))) (pg_sub (pv 0) pe_int set_list))))))))))))))))), ?_⟩
    have bκ : ∀ z, Bd 40 (κ z) := fun z => bd_small (en.b z)
    have eb1 : Eb (m + 1) = 2 * Eb m + 100 := rfl
    have hx0 := hx
    have hn := en.hn
    cases e with
    | num i =>
      obtain ⟨x, rfl, hp⟩ := hx
      have hocc : occ N (.num i) = false := rfl
      refine ⟨_, rfl, x, _, _, _, rfl, rfl, hp, rfl, ?_⟩
      refine ⟨_, rfl, rfl, _, rfl, ifF (by decide +kernel) (iteF ?_)⟩
      refine ⟨_, rfl, _, rfl, _, nl, N, S, _, rfl, hx0, oe, en.nm, fun H1 s1 => ⟨_, rfl, ?_⟩⟩
      rw [hocc]
      refine ifT rfl ?_
      refine ⟨_, rfl, _, rfl, _, rfl, _, dk, _, S, κ, kvs, rfl, hx0.same s1, oe, s1 _ _ en.d, ev_at en.k oe hocc, bκ, fun H2 s2 => ?_⟩
      refine ⟨_, _, rfl, rfl, mulW bc (ev_bd bκ oe) (by omega) (by omega), ?_⟩
      have s12 := s1.trans s2
      have t2 := hT.same s12
      refine ⟨_, rfl, t, _, 1, _, rfl, rfl, SqL.of t2.2.1, rfl, _, rfl, _, _, rfl, rfl, _, rfl, t, _, 1, 1, rfl, rfl, t2.2.1, rfl, ?_⟩
      refine ⟨_, rfl, t, _, 2, _, rfl, rfl, SqL.of upd_same, rfl, _, rfl, _, _, rfl, rfl, _, rfl, t, _, 2, 2, rfl, rfl, upd_same, rfl, ?_⟩
      refine q _ (fun b o h1 h2 eb => by rw [upd_ne h1, upd_ne h1]; exact s12 _ _ eb) ?_
      rw [tb_const hocc]
      exact ⟨hT.1, upd_same, by rw [upd_ne hT.1.symm, upd_ne hT.1.symm]; exact t2.2.2⟩
    | var z =>
      obtain ⟨x, rfl, hp⟩ := hx
      refine ⟨_, rfl, x, _, _, _, rfl, rfl, hp, rfl, ?_⟩
      refine ⟨_, rfl, rfl, _, rfl, ifT (by decide +kernel) ⟨_, rfl, x, _, _, _, rfl, rfl, hp, rfl, _, rfl, nl, _, rfl, .inl (SqL.of en.nm), rfl, flatS N, _, rfl, ?_⟩⟩
      rw [inV_str]
      refine ite2 (fun hz => ?_) (fun hz => ?_)
      · have mz : z ∈ N := of_decide_eq_true hz
        have li := List.idxOf_lt_length_iff.mpr mz
        have ln := en.ln
        refine ⟨_, rfl, t, _, 0, _, rfl, rfl, SqL.of hT.2.1, rfl, ?_⟩
        refine ⟨_, rfl, .inl ⟨rfl, _, SqL.of en.nm⟩, _, rfl, x, _, _, _, rfl, rfl, hp, rfl, nl, N.map V.str, .str z, N.idxOf z, .str z, rfl, rfl, SqL.of en.nm, rfl, flatS N, map_get (by rw [List.getElem?_eq_getElem li, List.getElem_idxOf]), beq_self_eq_true z, fun i z' hi hz' => ?_, ?_⟩
        · rw [List.getElem?_map] at hz'
          cases e : N[i]? with
          | none => rw [e] at hz'; cases hz'
          | some y =>
            rw [e] at hz'
            cases hz'
            exact beq_eq_false_iff_ne.mpr fun w => idx_first N hi (by rw [e, w])
        refine ⟨_, rfl, _, rfl, r, _, _, _, rfl, rfl, SqL.of hT.2.2, atI_nat (map_get (mkR_at (by omega))), _, rfl, _, _, rfl, rfl, _, rfl, _, rfl, r, _, _, N.idxOf z, rfl, rfl, hT.2.2, ixN_at (by rw [List.length_map, mkR_len]; omega), ?_⟩
        have ef : fm N κ n Ps (.var z) = .col (N.idxOf z) := by
          unfold fm
          rw [if_pos mz]
        refine q _ (fun b o h1 h2 eb => by rw [upd_ne h2]; exact eb) ⟨hT.1, ?_, ?_⟩
        · rw [upd_ne hT.1, hT.2.1]
          unfold tb
          rw [ef]
          show some (HO.lst [V.ref r, V.int F.lo, V.int F.hi]) = some (HO.lst [V.ref r, V.int (F.lo + min (c * 0) (c * 0)), V.int (F.hi + max (c * 0) (c * 0))])
          rw [show F.lo + min (c * 0) (c * 0) = F.lo by omega, show F.hi + max (c * 0) (c * 0) = F.hi by omega]
        · rw [upd_same]
          unfold tb
          rw [ef]
          refine (congrArg (fun z => some (HO.lst z)) (List.map_set).symm).trans (congrArg (fun z => some (HO.lst (z.map V.int))) (mkR_set (by omega) fun k hk => ?_))
          show F.c k + c * (if k = N.idxOf z then 1 else 0) = _
          by_cases e : k = N.idxOf z
          · rw [if_pos e, if_pos e, e, Int.mul_one]
          · rw [if_neg e, if_neg e, Int.mul_zero, Int.add_zero]
      · have mz : z ∉ N := fun y => hz (decide_eq_true y)
        have hocc : occ N (.var z) = false := decide_eq_false mz
        refine ⟨_, rfl, _, rfl, _, nl, N, S, _, rfl, hx0, oe, en.nm, fun H1 s1 => ⟨_, rfl, ?_⟩⟩
        rw [hocc]
        refine ifT rfl ?_
        refine ⟨_, rfl, _, rfl, _, rfl, _, dk, _, S, κ, kvs, rfl, hx0.same s1, oe, s1 _ _ en.d, ev_at en.k oe hocc, bκ, fun H2 s2 => ?_⟩
        refine ⟨_, _, rfl, rfl, mulW bc (ev_bd bκ oe) (by omega) (by omega), ?_⟩
        have s12 := s1.trans s2
        have t2 := hT.same s12
        refine ⟨_, rfl, t, _, 1, _, rfl, rfl, SqL.of t2.2.1, rfl, _, rfl, _, _, rfl, rfl, _, rfl, t, _, 1, 1, rfl, rfl, t2.2.1, rfl, ?_⟩
        refine ⟨_, rfl, t, _, 2, _, rfl, rfl, SqL.of upd_same, rfl, _, rfl, _, _, rfl, rfl, _, rfl, t, _, 2, 2, rfl, rfl, upd_same, rfl, ?_⟩
        refine q _ (fun b o h1 h2 eb => by rw [upd_ne h1, upd_ne h1]; exact s12 _ _ eb) ?_
        rw [tb_const hocc]
        exact ⟨hT.1, upd_same, by rw [upd_ne hT.1.symm, upd_ne hT.1.symm]; exact t2.2.2⟩
    | bin o a b =>
      obtain ⟨x, y1, y2, rfl, hp, ha, hb⟩ := hx
      have n1 : ¬ (V.str o.s = V.str "name") := by cases o <;> decide +kernel
      refine ⟨_, rfl, x, _, _, _, rfl, rfl, hp, rfl, ?_⟩
      refine ⟨_, rfl, rfl, _, rfl, ifF (decide_eq_false n1) (iteF ?_)⟩
      cases hocc : occ N (.bin o a b) with
      | false =>
        refine ⟨_, rfl, _, rfl, _, nl, N, S, _, rfl, hx0, oe, en.nm, fun H1 s1 => ⟨_, rfl, ?_⟩⟩
        rw [hocc]
        refine ifT rfl ?_
        refine ⟨_, rfl, _, rfl, _, rfl, _, dk, _, S, κ, kvs, rfl, hx0.same s1, oe, s1 _ _ en.d, ev_at en.k oe hocc, bκ, fun H2 s2 => ?_⟩
        refine ⟨_, _, rfl, rfl, mulW bc (ev_bd bκ oe) (by omega) (by omega), ?_⟩
        have s12 := s1.trans s2
        have t2 := hT.same s12
        refine ⟨_, rfl, t, _, 1, _, rfl, rfl, SqL.of t2.2.1, rfl, _, rfl, _, _, rfl, rfl, _, rfl, t, _, 1, 1, rfl, rfl, t2.2.1, rfl, ?_⟩
        refine ⟨_, rfl, t, _, 2, _, rfl, rfl, SqL.of upd_same, rfl, _, rfl, _, _, rfl, rfl, _, rfl, t, _, 2, 2, rfl, rfl, upd_same, rfl, ?_⟩
        refine q _ (fun b o h1 h2 eb => by rw [upd_ne h1, upd_ne h1]; exact s12 _ _ eb) ?_
        rw [tb_const hocc]
        exact ⟨hT.1, upd_same, by rw [upd_ne hT.1.symm, upd_ne hT.1.symm]; exact t2.2.2⟩
      | true =>
        refine ⟨_, rfl, _, rfl, _, nl, N, S, _, rfl, hx0, oe, en.nm, fun H1 s1 => ⟨_, rfl, ?_⟩⟩
        rw [hocc]
        refine ifF rfl ?_
        have en := en.same s1
        have hT := hT.same s1
        have hp := Same.tup s1 hp
        have ha := ha.same s1
        have hb := hb.same s1
        have q : ∀ H', Tbk t r H1 H' → TbAt H' t r n (tb N κ n Ps F (.bin o a b) c) → Q .non H' := fun H' k1 t1 => q H' ((Tbk.of s1).trans k1) t1
        clear s1
        cases o with
        | add =>
          refine ⟨_, rfl, rfl, _, rfl, ifT (by decide +kernel) (iteT ?_)⟩
          refine ⟨_, rfl, _, rfl, x, _, _, _, rfl, rfl, hp, rfl, _, rfl, _, rfl, _, rfl, _, rfl, t, r, dk, nl, p, y1, c, ec, F, a, kvs, N, S, κ, n, Ps, rfl, en, hT, nr, ha, oe.1, bc, by omega, fun H2 k2 t2 => ?_⟩
          have kp := k2.keep (K := K) hT
          have en2 := en.tbk k2 hT nr
          refine ⟨_, rfl, _, rfl, x, _, _, _, rfl, rfl, kp _ _ hp, rfl, _, rfl, _, rfl, _, rfl, by show 2 ≤ sizeLine; decide, fun l hl => ?_⟩
          have sl := Same.new hl (.lst [.int c, .int (-c)])
          refine ⟨_, rfl, rfl, .inr ⟨_, rfl, l, _, _, _, rfl, rfl, SqL.of upd_same, (by rw [decide_eq_false (show ¬ (V.str Op.add.s = V.str "-") by decide +kernel)]; rfl), ?_⟩⟩
          refine ⟨_, rfl, _, rfl, _, rfl, t, r, dk, nl, p, y2, c, ec, _, b, kvs, N, S, κ, n, Ps, rfl, en2.same sl, t2.same sl, nr, (hb.keep kp).same sl, oe.2, bc, by omega, fun H3 k3 t3 => ?_⟩
          rw [← tb_add] at t3
          exact q H3 ((k2.trans (Tbk.of sl)).trans k3) t3
        | sub =>
          refine ⟨_, rfl, rfl, _, rfl, ifF (by decide +kernel) ⟨_, rfl, rfl, _, rfl, ifT (by decide +kernel) ?_⟩⟩
          refine ⟨_, rfl, _, rfl, x, _, _, _, rfl, rfl, hp, rfl, _, rfl, _, rfl, _, rfl, _, rfl, t, r, dk, nl, p, y1, c, ec, F, a, kvs, N, S, κ, n, Ps, rfl, en, hT, nr, ha, oe.1, bc, by omega, fun H2 k2 t2 => ?_⟩
          have kp := k2.keep (K := K) hT
          have en2 := en.tbk k2 hT nr
          refine ⟨_, rfl, _, rfl, x, _, _, _, rfl, rfl, kp _ _ hp, rfl, _, rfl, _, rfl, _, rfl, by show 2 ≤ sizeLine; decide, fun l hl => ?_⟩
          have sl := Same.new hl (.lst [.int c, .int (-c)])
          refine ⟨_, rfl, rfl, .inr ⟨_, rfl, l, _, _, _, rfl, rfl, SqL.of upd_same, (by rw [decide_eq_true (show (V.str Op.sub.s = V.str "-") by decide +kernel)]; rfl), ?_⟩⟩
          refine ⟨_, rfl, _, rfl, _, rfl, t, r, dk, nl, p, y2, -c, ec, _, b, kvs, N, S, κ, n, Ps, rfl, en2.same sl, t2.same sl, nr, (hb.keep kp).same sl, oe.2, bc.neg, by omega, fun H3 k3 t3 => ?_⟩
          rw [← tb_sub] at t3
          exact q H3 ((k2.trans (Tbk.of sl)).trans k3) t3
        | mul =>
          refine ⟨_, rfl, rfl, _, rfl, ifF (by decide +kernel) ⟨_, rfl, rfl, _, rfl, ifF (by decide +kernel) ?_⟩⟩
          refine ⟨_, rfl, x, _, _, _, rfl, rfl, hp, rfl, _, rfl, y1, nl, N, S, a, rfl, ha, oe.1.up, en.nm, fun H2 s2 => ⟨_, rfl, ?_⟩⟩
          have en2 := en.same s2
          have hp2 := Same.tup s2 hp
          have ha2 := ha.same s2
          have hb2 := hb.same s2
          have hT2 := hT.same s2
          cases oa : occ N a with
          | false =>
            refine ifT rfl ?_
            refine ⟨_, rfl, _, rfl, x, _, _, _, rfl, rfl, hp2, rfl, _, rfl, _, rfl, x, _, _, _, rfl, rfl, hp2, rfl, _, rfl, y1, dk, a, S, κ, kvs, rfl, ha2, oe.1.up, en2.d, ev_at en.k oe.1 oa, bκ, fun H3 s3 => ?_⟩
            have ba := ev_bd bκ oe.1
            refine ⟨_, _, rfl, rfl, mulW bc ba (by omega) (by omega), _, rfl, _, rfl, _, rfl, t, r, dk, nl, p, y2, c * evE κ a, ec + Eb m, F, b, kvs, N, S, κ, n, Ps, rfl, en2.same s3, hT2.same s3, nr, hb2.same s3, oe.2, bd_mul bc ba, by omega, fun H4 k4 t4 => ?_⟩
            rw [← tb_mulL oa] at t4
            exact q H4 ((Tbk.of (s2.trans s3)).trans k4) t4
          | true =>
            refine ifF rfl ?_
            refine ⟨_, rfl, x, _, _, _, rfl, rfl, hp2, rfl, _, rfl, y2, nl, N, S, b, rfl, hb2, oe.2.up, en2.nm, fun H3 s3 => ⟨_, rfl, ?_⟩⟩
            have s23 := s2.trans s3
            have en3 := en.same s23
            have hp3 := Same.tup s23 hp
            have ha3 := ha.same s23
            have hb3 := hb.same s23
            have hT3 := hT.same s23
            cases ob : occ N b with
            | false =>
              refine ifT rfl ?_
              refine ⟨_, rfl, _, rfl, x, _, _, _, rfl, rfl, hp3, rfl, _, rfl, _, rfl, x, _, _, _, rfl, rfl, hp3, rfl, _, rfl, y2, dk, b, S, κ, kvs, rfl, hb3, oe.2.up, en3.d, ev_at en.k oe.2 ob, bκ, fun H4 s4 => ?_⟩
              have bb := ev_bd bκ oe.2
              refine ⟨_, _, rfl, rfl, mulW bc bb (by omega) (by omega), _, rfl, _, rfl, _, rfl, t, r, dk, nl, p, y1, c * evE κ b, ec + Eb m, F, a, kvs, N, S, κ, n, Ps, rfl, en3.same s4, hT3.same s4, nr, ha3.same s4, oe.1, bd_mul bc bb, by omega, fun H5 k5 t5 => ?_⟩
              rw [← tb_mulR oa ob] at t5
              exact q H5 ((Tbk.of (s23.trans s4)).trans k5) t5
            | true =>
              refine ifF rfl ?_
              refine ⟨_, rfl, _, rfl, _, rfl, _, rfl, dk, nl, p, _, a, b, kvs, N, S, κ, n, Ps, rfl, en3, ⟨x, y1, y2, rfl, hp3, ha3, hb3⟩, oe.1, oe.2, fun l H4 a1 b1 a2 b2 s4 e1 e2 e3 e4 hl => ?_⟩
              have hκ : Kok S N κ := fun z _ _ => en.b z
              have w1 := low_bd en.ne en.pb (by omega) (fm_bd (n := n) en.ne en.pb (by omega) hκ oe.1)
              have w2 := low_bd en.ne en.pb (by omega) (fm_bd (n := n) en.ne en.pb (by omega) hκ oe.2)
              rw [← e1, ← e2] at w1
              rw [← e3, ← e4] at w2
              have s24 := s23.trans s4
              have hT4 := hT.same s24
              refine ⟨_, rfl, l, rfl, ⟨_, SqL.of hl⟩, fun D hD => ?_⟩
              refine lc_it (walk_list (xs := [V.int (a1 * a2), .int (a1 * b2), .int (b1 * a2), .int (b1 * b2)])) (LcP (Same H4) (RInt [c * (a1 * a2), c * (a1 * b2), c * (b1 * a2), c * (b1 * b2)]) D) (lcp_start hD) (fun i G _ P => SqL.of (P.1 _ _ hl)) ?_ ?_
              · rintro j y G G' hj P ⟨rfl, ey⟩
                obtain ⟨u, rfl, bu, eu⟩ : ∃ u : Int, y = .int u ∧ Bd (Eb m + 47 + (Eb m + 47)) u ∧ [c * (a1 * a2), c * (a1 * b2), c * (b1 * a2), c * (b1 * b2)][j]? = some (c * u) := by
                  match j, ey with
                  | 0, ey => cases ey; exact ⟨_, rfl, bd_mul w1.1 w2.1, rfl⟩
                  | 1, ey => cases ey; exact ⟨_, rfl, bd_mul w1.1 w2.2, rfl⟩
                  | 2, ey => cases ey; exact ⟨_, rfl, bd_mul w1.2 w2.1, rfl⟩
                  | 3, ey => cases ey; exact ⟨_, rfl, bd_mul w1.2 w2.2, rfl⟩
                  | j + 4, ey => simp at ey
                have hj4 : j < 4 := hj
                refine ⟨rfl, tyes ?_⟩
                refine ⟨_, rfl, _, rfl, _, _, rfl, rfl, mulW bc bu (by omega) (by omega), ?_⟩
                exact lcp_same P hD (Same.refl _) (lt_line (by omega)) RInt.mono ⟨_, eu, rfl⟩
              · intro G P
                have ei := lcp_ints (K := K) P rfl
                have tG := hT4.same P.1
                have nDt : D ≠ t := fun z => by rw [z, hT4.2.1] at hD; cases hD
                refine ⟨_, rfl, t, _, 1, _, rfl, rfl, SqL.of tG.2.1, rfl, _, rfl, D, _, rfl, SqL.of ei, by show 0 < 4; decide, fun m1 hm1 hx1 => ?_⟩
                refine ⟨_, _, rfl, rfl, _, rfl, t, _, 1, 1, rfl, rfl, tG.2.1, rfl, ?_⟩
                refine ⟨_, rfl, t, _, 2, _, rfl, rfl, SqL.of upd_same, rfl, _, rfl, D, _, rfl, SqL.of ((upd_ne nDt).trans ei), by show 0 < 4; decide, fun m2 hm2 hx2 => ?_⟩
                refine ⟨_, _, rfl, rfl, _, rfl, t, _, 2, 2, rfl, rfl, upd_same, rfl, ?_⟩
                have f1 := (mn4 hm1 hx1).symm
                have f2 := (mx4 hm2 hx2).symm
                refine q _ (fun b o h1 h2 eb => by rw [upd_ne h1, upd_ne h1]; exact P.1 _ _ (s24 _ _ eb)) ?_
                rw [tb_prod oa ob e1 e2 e3 e4, f1, f2]
                exact ⟨tG.1, upd_same, by rw [upd_ne tG.1.symm, upd_ne tG.1.symm]; exact tG.2.2⟩
end
/-! ### law k23: the values in a point, the dict that stays -/
def spVat23 (K : PySem.W.Frag) : Sp := fun vs H Q _ => ∃ (dk nl a : Addr) (kvs : List (Key × V)) (N : List Str) (r : List Int), vs = [.ref dk, .ref nl, .ref a] ∧ H dk = some (.dK kvs) ∧ kvs.length ≤ 10 ∧ H nl = some (.lst (N.map V.str)) ∧ SqT K H a (r.map V.int) ∧ N.Nodup ∧ N.length ≤ r.length ∧ N.length ≤ 20 ∧
  ∀ d H' kvs', Same H H' → H d = none → H' d = some (.dK kvs') → (∀ z ∈ N, valV kvs' (Sum.inr z) = some (.int (r.getD (N.idxOf z) 0))) → (∀ z, z ∉ N → valV kvs' (Sum.inr z) = valV kvs (Sum.inr z)) → Q (.ref d) H'
def spKept23 : Sp := fun vs H Q _ => ∃ (hd dk : Addr) (kvs : List (Key × V)), vs = [.ref hd, .ref dk] ∧ H hd = some (.dK kvs) ∧ H dk = some (.dK kvs) ∧ hd ≠ dk ∧ kvs.length ≤ 10 ∧ (∀ k v, valV kvs k = some v → (∃ z, k = Sum.inr z) ∧ (v = .non ∨ (∃ b, v = .bl b) ∨ ∃ i, v = .int i)) ∧ Q (.bl true) H
section
variable {P : Program} {w : World} {K : PySem.W.Frag} {mg : Str → Option Value} {base : Heap}
theorem ok_l_values_at (T : Txt w K mg) : FnOk P w K mg base CX0 1 T.a_l_values_at T.d_l_values_at p_l_values_at (spVat23 K) := by
  refine T.F_l_values_at.ok sc_l_values_at (fun vs H Q E h => ?_) (fun cdv A outer s H vs Q E hr h => ?_)
  · obtain ⟨dk, nl, a, kvs, N, r, rfl, _⟩ := h
    rfl
  obtain ⟨dk, nl, a, kvs, N, r, rfl, hd, lk, hN, ha, nd, lr, lN, q⟩ := h
  refine ⟨_, (pss_cons (ps_set (i := 3) sc_l_values_at.nd rfl (Or.inl rfl) (pe_callTy call_dictD rfl T.z_dict bt_dict (pa_cons (pv 0) pa_nil)))
      (pss_cons (ps_for PassesOwn.never rfl (pi_range1 rfl T.z_range (pa_cons (pe_callB call_len_seq rfl T.z_len PySem.boot_len (pa_cons (pv 1) pa_nil)) pa_nil)) (pg_name (i := 4) sc_l_values_at.nd rfl (Or.inl rfl))
        (pss_one (ps_dput (hu_of hr) (pv 3) (pe_ix ix_list (pv 1) (pv 4) (fun _ _ => rfl)) (pe_ix ix_tup (pv 2) (pv 4) (fun _ _ => rfl)) rfl)))
      (pss_one (ps_ret (pv 3))))), ?_⟩
  refine ⟨_, rfl, dk, kvs, rfl, .inl hd, fun d hdn => ?_⟩
  have sd := Same.new hdn (.dK kvs)
  refine ⟨_, rfl, nl, _, rfl, .inl (SqL.of (sd _ _ hN)), _, rfl, by omega, by rw [List.length_map]; omega, for_range (lo := 0) (fun i σ G => Same H G ∧ ∃ kvs', G d = some (.dK kvs') ∧ kvs'.length ≤ 10 + i ∧ (∀ z, valV kvs' (Sum.inr z) = if z ∈ N.take i then some (.int (r.getD (N.idxOf z) 0)) else valV kvs (Sum.inr z)) ∧ ∃ x4 : Option V, σ = [some (.ref dk), some (.ref nl), some (.ref a), some (.ref d), x4])
    ⟨sd, kvs, upd_same, by omega, fun z => by rw [List.take_zero]; rfl, none, rfl⟩ ?_ ?_⟩
  · rintro i σ G hi ⟨sG, kvs', hk, lk', hv, x4, rfl⟩
    rw [List.length_map] at hi
    have hi2 : i < N.length := by omega
    have hir : i < r.length := by omega
    refine ⟨_, rfl, _, rfl, a, _, _, _, rfl, rfl, Same.tup sG ha, (by rw [Int.zero_add]; exact atI_nat (map_get (List.getElem?_eq_getElem hir))), ?_⟩
    refine ⟨_, rfl, _, rfl, _, rfl, nl, _, _, _, rfl, rfl, SqL.of (sG _ _ hN), (by rw [Int.zero_add]; exact atI_nat (map_get (List.getElem?_eq_getElem hi2))), d, _, rfl, DPut.k (k := Sum.inr N[i]) hk (small1000 (by omega)), ?_⟩
    refine ⟨fun b o e => by rw [upd_ne (ne_of_none e hdn)]; exact sG _ _ e, _, upd_same, ?_, fun z => ?_, _, rfl⟩
    · have := putK_lenle (kvs := kvs') (k := Sum.inr N[i]) (y := V.int r[i])
      omega
    · have tk : N.take (i + 1) = N.take i ++ [N[i]] := by
        rw [List.take_add_one, List.getElem?_eq_getElem hi2]
        rfl
      rw [valV_put, hv, tk]
      by_cases e : z = N[i]
      · subst e
        rw [if_pos rfl, if_pos (List.mem_append_right _ (List.mem_singleton.mpr rfl)), nd.idxOf_getElem i hi2, List.getD_eq_getElem?_getD, List.getElem?_eq_getElem hir]
        rfl
      · rw [if_neg (fun y => e (Sum.inr.inj y))]
        by_cases h : z ∈ N.take i
        · rw [if_pos h, if_pos (List.mem_append_left _ h)]
        · rw [if_neg h, if_neg (fun y => (List.mem_append.mp y).elim h fun y => e (List.mem_singleton.mp y))]
  · rintro σ G ⟨sG, kvs', hk, lk', hv, x4, rfl⟩
    rw [List.length_map] at hv
    refine ⟨_, rfl, q d G kvs' sG hdn hk (fun z hz => ?_) fun z hz => ?_⟩
    · rw [hv, List.take_of_length_le (by omega), if_pos hz]
    · rw [hv, List.take_of_length_le (by omega), if_neg hz]
theorem ok_l_kept (T : Txt w K mg) : FnOk P w K mg base CX0 2 T.a_l_kept T.d_l_kept p_l_kept spKept23 := by
  have g_l_same := ok_l_same (P := P) (w := w) (K := K) (base := base) T 1
  refine T.F_l_kept.ok sc_l_kept (fun vs H Q E h => ?_) (fun cdv A outer s H vs Q E hr h => ?_)
  · obtain ⟨hd, dk, kvs, rfl, _⟩ := h
    rfl
  obtain ⟨hd, dk, kvs, rfl, h1, h2, ne, lk, hf, q⟩ := h
  refine ⟨_, (pss_cons (ps_if (pt_cmpR op_ne (pe_callB call_lenD rfl T.z_len PySem.boot_len (pa_cons (pv 0) pa_nil)) (pe_callB call_lenD rfl T.z_len PySem.boot_len (pa_cons (pv 1) pa_nil)) (nomark _)) (pss_one (ps_ret pe_bl)) pss_nil)
      (pss_cons (ps_lock (ps_for PassesOwn.never rfl (pi_keys (pv 1)) (pg_name (i := 2) sc_l_kept.nd rfl (Or.inl rfl))
        (pss_one (ps_if (PW.pt (pw_or (pt_cmp (pc_dnotin (hu_of hr) (pv 2) (pv 0))) (pw_or1 (pt_not (pt_val (pe_call g_l_same (hr.mono (by first | decide | omega)) rfl T.m_l_same T.F_l_same.kp T.b_l_same .nil pass0 (pa_cons (pe_dget (hu_of hr) (pv 0) (pv 2) (fun _ _ => rfl)) (pa_cons (pe_dget (hu_of hr) (pv 1) (pv 2) (fun _ _ => rfl)) pa_nil)))))))) (pss_one (ps_ret pe_bl)) pss_nil))))
      (pss_one (ps_ret pe_bl)))), ?_⟩
  refine ⟨_, rfl, hd, kvs, rfl, h1, _, rfl, dk, kvs, rfl, h2, rfl, _, rfl, ifF (by rw [decide_eq_true rfl]; rfl) ?_⟩
  refine ⟨dk, _, h2, trivial, fun od => ⟨_, rfl, dk, od, rfl, .inl ⟨kvs, upd_same, for_it (walk_keys (d := dk) (o := od) (kvs := kvs)) (fun i σ G => G = upd H dk (.frz od (.dK kvs)) ∧ ∃ x2 : Option V, σ = [some (.ref hd), some (.ref dk), x2]) ⟨rfl, none, rfl⟩ (fun i σ G _ ⟨e, _⟩ => by rw [e]; exact upd_same) ?_ ?_⟩⟩⟩
  · rintro i x σ G G' hi ⟨rfl, x2, rfl⟩ ⟨rfl, k, v, hk, rfl⟩
    obtain ⟨v', ev⟩ : ∃ v', valV kvs k = some v' := by
      have : (valV kvs k).isSome = true := by
        rw [← valV_any]
        exact List.any_eq_true.mpr ⟨_, List.mem_of_getElem? hk, decide_eq_true rfl⟩
      exact Option.isSome_iff_exists.mp this
    obtain ⟨⟨z, rfl⟩, fl⟩ := hf k v' ev
    have hd1 : (upd H dk (.frz od (.dK kvs))) hd = some (.dK kvs) := by rw [upd_ne ne]; exact h1
    refine ⟨_, rfl, _, rfl, hd, _, rfl, DGet.at (k := Sum.inr z) hd1 ev, ⟨_, rfl, iteF ?_⟩⟩
    refine ⟨_, rfl, _, rfl, hd, v', rfl, DGet.at (k := Sum.inr z) hd1 ev, _, rfl, _, rfl, dk, v', rfl, .inl ⟨kvs, Sum.inr z, .inr ⟨od, upd_same⟩, rfl, ev.symm⟩, ?_⟩
    obtain ⟨dd, g1, g2⟩ : ∃ dd, Dp K (upd H dk (.frz od (.dK kvs))) v' dd ∧ Dok 1 dd := by
      rcases fl with rfl | ⟨b, rfl⟩ | ⟨b, rfl⟩
      · exact ⟨_, .non, trivial⟩
      · exact ⟨_, .bl _, trivial⟩
      · exact ⟨_, .int _, trivial⟩
    exact ⟨v', v', dd, rfl, g1, g1, g2, ⟨_, rfl, ifF rfl ⟨rfl, _, rfl⟩⟩⟩
  · rintro σ G ⟨rfl, x2, rfl⟩
    refine ⟨upd_same, ?_⟩
    rw [upd_upd, show upd H dk (.dK kvs) = H from by
      funext b
      by_cases e : b = dk
      · rw [e, upd_same, h2]
      · rw [upd_ne e]]
    exact q
end
/-! ### law k23: a form stands for its expression, in the points of the box; fewer points give no wider a form -/
structure Zp (n : Nat) (Ps : List (List Int)) (x : List Int) : Prop where
  lo : ∀ k < n, ∃ p ∈ Ps, p.getD k 0 ≤ x.getD k 0
  hi : ∀ k < n, ∃ p ∈ Ps, x.getD k 0 ≤ p.getD k 0
  df : ∀ i < n, ∀ j < n, ∃ p ∈ Ps, x.getD i 0 - x.getD j 0 ≤ p.getD i 0 - p.getD j 0
theorem Zp.pt {n : Nat} {Ps : List (List Int)} {x : List Int} (h : x ∈ Ps) : Zp n Ps x := ⟨fun _ _ => ⟨x, h, Int.le_refl _⟩, fun _ _ => ⟨x, h, Int.le_refl _⟩, fun _ _ _ _ => ⟨x, h, Int.le_refl _⟩⟩
theorem Zp.least {n : Nat} {Ps : List (List Int)} {x : List Int} (h : ∀ k < n, (∃ p ∈ Ps, x.getD k 0 = p.getD k 0) ∧ ∀ p ∈ Ps, x.getD k 0 ≤ p.getD k 0) : Zp n Ps x := by
  refine ⟨fun k hk => ?_, fun k hk => ?_, fun i hi j hj => ?_⟩
  · obtain ⟨⟨p, hp, e⟩, _⟩ := h k hk
    exact ⟨p, hp, by omega⟩
  · obtain ⟨⟨p, hp, e⟩, _⟩ := h k hk
    exact ⟨p, hp, by omega⟩
  · obtain ⟨⟨p, hp, e⟩, _⟩ := h j hj
    have := (h i hi).2 p hp
    exact ⟨p, hp, by omega⟩
theorem Zp.greatest {n : Nat} {Ps : List (List Int)} {x : List Int} (h : ∀ k < n, (∃ p ∈ Ps, x.getD k 0 = p.getD k 0) ∧ ∀ p ∈ Ps, p.getD k 0 ≤ x.getD k 0) : Zp n Ps x := by
  refine ⟨fun k hk => ?_, fun k hk => ?_, fun i hi j hj => ?_⟩
  · obtain ⟨⟨p, hp, e⟩, _⟩ := h k hk
    exact ⟨p, hp, by omega⟩
  · obtain ⟨⟨p, hp, e⟩, _⟩ := h k hk
    exact ⟨p, hp, by omega⟩
  · obtain ⟨⟨p, hp, e⟩, _⟩ := h i hi
    have := (h j hj).2 p hp
    exact ⟨p, hp, by omega⟩
theorem betw {c l h x : Int} (h1 : l ≤ x) (h2 : x ≤ h) : min (c * l) (c * h) ≤ c * x ∧ c * x ≤ max (c * l) (c * h) := by
  by_cases c0 : 0 ≤ c
  · have := Int.mul_le_mul_of_nonneg_left h1 c0
    have := Int.mul_le_mul_of_nonneg_left h2 c0
    omega
  · have := Int.mul_le_mul_of_nonpos_left (show c ≤ 0 by omega) h1
    have := Int.mul_le_mul_of_nonpos_left (show c ≤ 0 by omega) h2
    omega
theorem min4_mem (a b c d : Int) : min4 a b c d = a ∨ min4 a b c d = b ∨ min4 a b c d = c ∨ min4 a b c d = d := by
  unfold min4
  omega
theorem max4_mem (a b c d : Int) : max4 a b c d = a ∨ max4 a b c d = b ∨ max4 a b c d = c ∨ max4 a b c d = d := by
  unfold max4
  omega
theorem min4_le (a b c d : Int) : min4 a b c d ≤ min a b ∧ min4 a b c d ≤ min c d := by
  unfold min4
  omega
theorem max4_ge (a b c d : Int) : max a b ≤ max4 a b c d ∧ max c d ≤ max4 a b c d := by
  unfold max4
  omega
theorem min2_le {a b x y z : Int} (h : min a b ≤ z) (h1 : x ≤ a) (h2 : x ≤ b) : x ≤ z := by omega
theorem max2_ge {a b x z : Int} (h : z ≤ max a b) (h1 : a ≤ x) (h2 : b ≤ x) : z ≤ x := by omega
theorem prod_in {a1 b1 a2 b2 x y : Int} (h1 : a1 ≤ x) (h2 : x ≤ b1) (h3 : a2 ≤ y) (h4 : y ≤ b2) : min4 (a1 * a2) (a1 * b2) (b1 * a2) (b1 * b2) ≤ x * y ∧ x * y ≤ max4 (a1 * a2) (a1 * b2) (b1 * a2) (b1 * b2) := by
  have e1 := betw (c := y) h1 h2
  have e2 := betw (c := a1) h3 h4
  have e3 := betw (c := b1) h3 h4
  rw [Int.mul_comm y a1, Int.mul_comm y b1, Int.mul_comm y x] at e1
  have m := min4_le (a1 * a2) (a1 * b2) (b1 * a2) (b1 * b2)
  have k := max4_ge (a1 * a2) (a1 * b2) (b1 * a2) (b1 * b2)
  exact ⟨min2_le (y := 0) e1.1 (Int.le_trans m.1 e2.1) (Int.le_trans m.2 e3.1), max2_ge e1.2 (Int.le_trans e2.2 k.1) (Int.le_trans e3.2 k.2)⟩
theorem corner_mono {a1 b1 a2 b2 c1 d1 c2 d2 : Int} (h1 : a1 ≤ c1) (h2 : c1 ≤ d1) (h3 : d1 ≤ b1) (h4 : a2 ≤ c2) (h5 : c2 ≤ d2) (h6 : d2 ≤ b2) :
    min4 (a1 * a2) (a1 * b2) (b1 * a2) (b1 * b2) ≤ min4 (c1 * c2) (c1 * d2) (d1 * c2) (d1 * d2) ∧ max4 (c1 * c2) (c1 * d2) (d1 * c2) (d1 * d2) ≤ max4 (a1 * a2) (a1 * b2) (b1 * a2) (b1 * b2) := by
  have p1 := prod_in h1 (Int.le_trans h2 h3) h4 (Int.le_trans h5 h6)
  have p2 := prod_in h1 (Int.le_trans h2 h3) (Int.le_trans h4 h5) h6
  have p3 := prod_in (Int.le_trans h1 h2) h3 h4 (Int.le_trans h5 h6)
  have p4 := prod_in (Int.le_trans h1 h2) h3 (Int.le_trans h4 h5) h6
  constructor
  · rcases min4_mem (c1 * c2) (c1 * d2) (d1 * c2) (d1 * d2) with e | e | e | e
    · rw [e]; exact p1.1
    · rw [e]; exact p2.1
    · rw [e]; exact p3.1
    · rw [e]; exact p4.1
  · rcases max4_mem (c1 * c2) (c1 * d2) (d1 * c2) (d1 * d2) with e | e | e | e
    · rw [e]; exact p1.2
    · rw [e]; exact p2.2
    · rw [e]; exact p3.2
    · rw [e]; exact p4.2
theorem low_zp {cs x : List Int} {flo fhi : Int} {Ps : List (List Int)} (z : Zp cs.length Ps x) : lowF cs flo Ps ≤ val cs x + flo ∧ val cs x + fhi ≤ highF cs fhi Ps := by
  unfold lowF highF
  by_cases d : IsD cs
  · rw [if_pos d, if_pos d]
    obtain ⟨i, j, dij⟩ : ∃ i j, DiffAt cs i j := by
      obtain ⟨a, b, e, la, lb, _, alt⟩ := isD_used d
      rcases alt with ⟨h1, h2⟩ | ⟨h1, h2⟩
      · exact ⟨_, _, (diffAt_of e la lb h1 h2).1⟩
      · exact ⟨_, _, diffAt_of' e la lb h1 h2⟩
    obtain ⟨i1, i2, j1, j2, hv⟩ := dij
    obtain ⟨p, hp, e1⟩ := z.df (j - 1) (by omega) (i - 1) (by omega)
    obtain ⟨r, hr, e2⟩ := z.df (i - 1) (by omega) (j - 1) (by omega)
    have m1 := (minV_le (cs := cs) hp).1
    have m2 := (maxV_ge (cs := cs) hr).1
    rw [hv] at m1 m2
    rw [hv x]
    omega
  · rw [if_neg d, if_neg d]
    unfold spanLo spanHi
    rw [val_used]
    have s1 := sum_le (f := fun k => tmin (hullM cs.length Ps) (cs.getD k 0) k) (g := fun k => cs.getD k 0 * x.getD k 0) (usedZ cs) fun k hk => by
      have lk := (mem_usedZ.mp hk).1
      obtain ⟨p, hp, e1⟩ := z.lo k lk
      obtain ⟨r, hr, e2⟩ := z.hi k lk
      have t1 := (tmin_le (c := cs.getD k 0) hp lk).1
      have t2 := (tmin_le (c := cs.getD k 0) hr lk).1
      have := (betw (c := cs.getD k 0) e1 e2).1
      show tmin _ _ _ ≤ _ * _
      omega
    have s2 := sum_le (f := fun k => cs.getD k 0 * x.getD k 0) (g := fun k => tmax (hullM cs.length Ps) (cs.getD k 0) k) (usedZ cs) fun k hk => by
      have lk := (mem_usedZ.mp hk).1
      obtain ⟨p, hp, e1⟩ := z.lo k lk
      obtain ⟨r, hr, e2⟩ := z.hi k lk
      have t1 := (tmax_ge (c := cs.getD k 0) hp lk).1
      have t2 := (tmax_ge (c := cs.getD k 0) hr lk).1
      have := (betw (c := cs.getD k 0) e1 e2).2
      show _ * _ ≤ tmax _ _ _
      omega
    omega
/-! sums of coefficients with values -/
def vsum (n : Nat) (f : Nat → Int) (x : List Int) : Int := ((List.range n).map fun k => f k * x.getD k 0).sum
theorem vsum_succ {n : Nat} {f : Nat → Int} {x : List Int} : vsum (n + 1) f x = vsum n f x + f n * x.getD n 0 := by
  unfold vsum
  rw [List.range_succ, List.map_append, List.sum_append]
  simp
theorem val_mkR {n : Nat} {f : Nat → Int} {x : List Int} : val (mkR n f) x = vsum n f x := by
  unfold val vsum
  rw [mkR_len]
  congr 1
  refine List.map_congr_left fun k hk => ?_
  rw [mkR_getD (List.mem_range.mp hk)]
theorem vsum_zero {x : List Int} : ∀ n : Nat, vsum n (fun _ => 0) x = 0
  | 0 => rfl
  | n + 1 => by rw [vsum_succ, vsum_zero n]; omega
theorem vsum_add {f g : Nat → Int} {x : List Int} : ∀ n : Nat, vsum n (fun k => f k + g k) x = vsum n f x + vsum n g x
  | 0 => rfl
  | n + 1 => by
    rw [vsum_succ, vsum_succ, vsum_succ, vsum_add n, Int.add_mul]
    omega
theorem vsum_mul {v : Int} {f : Nat → Int} {x : List Int} : ∀ n : Nat, vsum n (fun k => v * f k) x = v * vsum n f x
  | 0 => (Int.mul_zero _).symm
  | n + 1 => by rw [vsum_succ, vsum_succ, vsum_mul n, Int.mul_add, Int.mul_assoc]
theorem vsum_col {i : Nat} {x : List Int} : ∀ n : Nat, vsum n (Fm.col i).c x = if i < n then x.getD i 0 else 0
  | 0 => by rw [if_neg (Nat.not_lt_zero _)]; rfl
  | n + 1 => by
    rw [vsum_succ, vsum_col n]
    show _ + (if n = i then 1 else 0) * _ = _
    by_cases e : n = i
    · subst e
      rw [if_neg (Nat.lt_irrefl _), if_pos rfl, if_pos (Nat.lt_succ_self _)]
      omega
    · rw [if_neg e]
      by_cases h : i < n
      · rw [if_pos h, if_pos (by omega)]
        omega
      · rw [if_neg h, if_neg (by omega)]
        omega
def rho (N : List Str) (κ : Str → Int) (x : List Int) : Str → Int := fun z => if z ∈ N then x.getD (N.idxOf z) 0 else κ z
theorem ev_occ {N : List Str} {κ : Str → Int} {x : List Int} : ∀ e : Ef, occ N e = false → evE (rho N κ x) e = evE κ e
  | .num _, _ => rfl
  | .var z, h => if_neg (of_decide_eq_false h)
  | .bin o a b, h => by
    have h := Bool.or_eq_false_iff.mp h
    show o.ap _ _ = o.ap _ _
    rw [ev_occ a h.1, ev_occ b h.2]
theorem fm_sound {N : List Str} {κ : Str → Int} {n : Nat} {Ps : List (List Int)} {x : List Int} (z : Zp n Ps x) (ln : N.length ≤ n) : ∀ e : Ef, (fm N κ n Ps e).lo + vsum n (fm N κ n Ps e).c x ≤ evE (rho N κ x) e ∧ evE (rho N κ x) e ≤ vsum n (fm N κ n Ps e).c x + (fm N κ n Ps e).hi
  | .num i => by
    have := vsum_zero (x := x) n
    show i + vsum n (fun _ => 0) x ≤ i ∧ i ≤ vsum n (fun _ => 0) x + i
    omega
  | .var y => by
    by_cases h : y ∈ N
    · have e1 : fm N κ n Ps (.var y) = .col (N.idxOf y) := by
        unfold fm
        rw [if_pos h]
      have e2 : evE (rho N κ x) (.var y) = x.getD (N.idxOf y) 0 := if_pos h
      have li := List.idxOf_lt_length_iff.mpr h
      have e3 := vsum_col (i := N.idxOf y) (x := x) n
      rw [if_pos (by omega)] at e3
      rw [e1, e2]
      show 0 + vsum n (Fm.col _).c x ≤ _ ∧ _ ≤ vsum n (Fm.col _).c x + 0
      omega
    · have e1 : fm N κ n Ps (.var y) = .con (κ y) := by
        unfold fm
        rw [if_neg h]
      have e2 : evE (rho N κ x) (.var y) = κ y := if_neg h
      have := vsum_zero (x := x) n
      rw [e1, e2]
      show κ y + vsum n (fun _ => 0) x ≤ κ y ∧ κ y ≤ vsum n (fun _ => 0) x + κ y
      omega
  | .bin .add a b => by
    have h1 := fm_sound z ln (κ := κ) a
    have h2 := fm_sound z ln (κ := κ) b
    have e := vsum_add (f := (fm N κ n Ps a).c) (g := (fm N κ n Ps b).c) (x := x) n
    show _ + _ + vsum n (fun k => (fm N κ n Ps a).c k + (fm N κ n Ps b).c k) x ≤ evE _ a + evE _ b ∧ evE _ a + evE _ b ≤ vsum n (fun k => (fm N κ n Ps a).c k + (fm N κ n Ps b).c k) x + (_ + _)
    omega
  | .bin .sub a b => by
    have h1 := fm_sound z ln (κ := κ) a
    have h2 := fm_sound z ln (κ := κ) b
    have e := vsum_add (f := (fm N κ n Ps a).c) (g := fun k => -1 * (fm N κ n Ps b).c k) (x := x) n
    have e2 := vsum_mul (v := -1) (f := (fm N κ n Ps b).c) (x := x) n
    show _ + min _ _ + vsum n (fun k => (fm N κ n Ps a).c k + -1 * (fm N κ n Ps b).c k) x ≤ evE _ a - evE _ b ∧ evE _ a - evE _ b ≤ vsum n (fun k => (fm N κ n Ps a).c k + -1 * (fm N κ n Ps b).c k) x + (_ + max _ _)
    omega
  | .bin .mul a b => by
    have h1 := fm_sound z ln (κ := κ) a
    have h2 := fm_sound z ln (κ := κ) b
    have tm : ∀ (A : Fm) (v y : Int), A.lo + vsum n A.c x ≤ y → y ≤ vsum n A.c x + A.hi → (A.times v).lo + vsum n (A.times v).c x ≤ v * y ∧ v * y ≤ vsum n (A.times v).c x + (A.times v).hi := fun A v y g1 g2 => by
      have e := vsum_mul (v := v) (f := A.c) (x := x) n
      have g := betw (c := v) (x := y - vsum n A.c x) (show A.lo ≤ _ by omega) (show _ ≤ A.hi by omega)
      rw [Int.mul_sub] at g
      show min (v * A.lo) (v * A.hi) + vsum n (fun k => v * A.c k) x ≤ _ ∧ _ ≤ vsum n (fun k => v * A.c k) x + max (v * A.lo) (v * A.hi)
      omega
    cases oa : occ N a with
    | false =>
      have e : fm N κ n Ps (.bin .mul a b) = (fm N κ n Ps b).times (evE κ a) := by
        rw [fm, if_pos oa, fm_const a oa]
        rfl
      have e2 : evE (rho N κ x) (.bin .mul a b) = evE κ a * evE (rho N κ x) b := by
        show evE _ a * _ = _
        rw [ev_occ a oa]
      rw [e, e2]
      exact tm _ _ _ h2.1 h2.2
    | true =>
      cases ob : occ N b with
      | false =>
        have e : fm N κ n Ps (.bin .mul a b) = (fm N κ n Ps a).times (evE κ b) := by
          rw [fm, if_neg (by rw [oa]; decide), if_pos ob, fm_const b ob]
          rfl
        have e2 : evE (rho N κ x) (.bin .mul a b) = evE κ b * evE (rho N κ x) a := by
          show _ * evE _ b = _
          rw [ev_occ b ob, Int.mul_comm]
        rw [e, e2]
        exact tm _ _ _ h1.1 h1.2
      | true =>
        have e : fm N κ n Ps (.bin .mul a b) = .prod ((fm N κ n Ps a).low n Ps) ((fm N κ n Ps a).high n Ps) ((fm N κ n Ps b).low n Ps) ((fm N κ n Ps b).high n Ps) := by
          rw [fm, if_neg (by rw [oa]; decide), if_neg (by rw [ob]; decide)]
        have za := low_zp (cs := mkR n (fm N κ n Ps a).c) (flo := (fm N κ n Ps a).lo) (fhi := (fm N κ n Ps a).hi) (Ps := Ps) (x := x) (by rw [mkR_len]; exact z)
        have zb := low_zp (cs := mkR n (fm N κ n Ps b).c) (flo := (fm N κ n Ps b).lo) (fhi := (fm N κ n Ps b).hi) (Ps := Ps) (x := x) (by rw [mkR_len]; exact z)
        rw [val_mkR] at za zb
        have g := prod_in (a1 := (fm N κ n Ps a).low n Ps) (b1 := (fm N κ n Ps a).high n Ps) (a2 := (fm N κ n Ps b).low n Ps) (b2 := (fm N κ n Ps b).high n Ps) (x := evE (rho N κ x) a) (y := evE (rho N κ x) b)
          (by unfold Fm.low; omega) (by unfold Fm.high; omega) (by unfold Fm.low; omega) (by unfold Fm.high; omega)
        have v0 := vsum_zero (x := x) n
        rw [e]
        show min4 _ _ _ _ + vsum n (fun _ => 0) x ≤ _ * _ ∧ _ * _ ≤ vsum n (fun _ => 0) x + max4 _ _ _ _
        omega
theorem times_mono (A B : Fm) (v : Int) (k1 : B.c = A.c) (k2 : A.lo ≤ B.lo) (k3 : B.hi ≤ A.hi) (k4 : B.lo ≤ B.hi) : (B.times v).c = (A.times v).c ∧ (A.times v).lo ≤ (B.times v).lo ∧ (B.times v).hi ≤ (A.times v).hi := by
  have g1 := betw (c := v) (x := B.lo) k2 (Int.le_trans k4 k3)
  have g2 := betw (c := v) (x := B.hi) (Int.le_trans k2 k4) k3
  refine ⟨?_, ?_, ?_⟩
  · show (fun k => v * B.c k) = fun k => v * A.c k
    rw [k1]
  · show min (v * A.lo) (v * A.hi) ≤ min (v * B.lo) (v * B.hi)
    exact Int.le_min.mpr ⟨g1.1, g2.1⟩
  · show max (v * B.lo) (v * B.hi) ≤ max (v * A.lo) (v * A.hi)
    exact Int.max_le.mpr ⟨g1.2, g2.2⟩
theorem add_mono (A B C D : Fm) (k1 : B.c = A.c) (k2 : D.c = C.c) (l1 : A.lo ≤ B.lo) (l2 : C.lo ≤ D.lo) (h1 : B.hi ≤ A.hi) (h2 : D.hi ≤ C.hi) : (B.add D).c = (A.add C).c ∧ (A.add C).lo ≤ (B.add D).lo ∧ (B.add D).hi ≤ (A.add C).hi := by
  refine ⟨?_, Int.add_le_add l1 l2, Int.add_le_add h1 h2⟩
  show (fun k => B.c k + D.c k) = fun k => A.c k + C.c k
  rw [k1, k2]
theorem low_fm {n : Nat} {Ps Qs : List (List Int)} {q : List Int} (hq : q ∈ Qs) (sub : ∀ r ∈ Qs, r ∈ Ps) (A B : Fm) (k1 : B.c = A.c) (k2 : A.lo ≤ B.lo) (k3 : B.hi ≤ A.hi) (k4 : B.lo ≤ B.hi) : A.low n Ps ≤ B.low n Qs ∧ B.low n Qs ≤ B.high n Qs ∧ B.high n Qs ≤ A.high n Ps := by
  have low_shift : ∀ {cs : List Int} {u v : Int} {Ps : List (List Int)}, u ≤ v → lowF cs u Ps ≤ lowF cs v Ps ∧ highF cs u Ps ≤ highF cs v Ps := fun {cs u v Ps} h => by
    unfold lowF highF spanLo spanHi
    split <;> omega
  refine ⟨?_, ?_, ?_⟩
  · unfold Fm.low
    rw [k1]
    exact Int.le_trans (low_mono hq sub) (low_shift k2).1
  · unfold Fm.low Fm.high
    have g1 := low_le (cs := mkR n B.c) (flo := B.lo) hq
    have g2 := high_ge (cs := mkR n B.c) (fhi := B.hi) hq
    omega
  · unfold Fm.high
    rw [k1]
    exact Int.le_trans (low_shift k3).2 (high_mono hq sub)
theorem ev_at2 {kvs kv' : List (Key × V)} {N S : List Str} {κ : Str → Int} {x : List Int} (hk : ∀ z ∈ S, z ∉ N → valV kvs (Sum.inr z) = some (.int (κ z))) (v1 : ∀ z ∈ N, valV kv' (Sum.inr z) = some (.int (x.getD (N.idxOf z) 0))) (v2 : ∀ z, z ∉ N → valV kv' (Sum.inr z) = valV kvs (Sum.inr z)) : ∀ {m : Nat} {e : Ef}, e.ok S m → EvAt kv' (rho N κ x) e
  | 0, _, h => h.elim
  | _ + 1, .num _, _ => trivial
  | _ + 1, .var z, h => by
    show valV kv' (Sum.inr z) = some (.int (if z ∈ N then _ else _))
    by_cases hz : z ∈ N
    · rw [if_pos hz]
      exact v1 z hz
    · rw [if_neg hz, v2 z hz]
      exact hk z h hz
  | _ + 1, .bin _ _ _, h => ⟨ev_at2 hk v1 v2 h.1, ev_at2 hk v1 v2 h.2⟩
theorem fm_bin_add {N : List Str} {κ : Str → Int} {n : Nat} {Ps : List (List Int)} {a b : Ef} : fm N κ n Ps (.bin .add a b) = (fm N κ n Ps a).add (fm N κ n Ps b) := by rw [fm]
theorem fm_bin_sub {N : List Str} {κ : Str → Int} {n : Nat} {Ps : List (List Int)} {a b : Ef} : fm N κ n Ps (.bin .sub a b) = (fm N κ n Ps a).add ((fm N κ n Ps b).times (-1)) := by rw [fm]
theorem fm_bin_mulL {N : List Str} {κ : Str → Int} {n : Nat} {Ps : List (List Int)} {a b : Ef} (h : occ N a = false) : fm N κ n Ps (.bin .mul a b) = (fm N κ n Ps b).times (evE κ a) := by
  rw [fm, if_pos h, fm_const a h]
  rfl
theorem fm_bin_mulR {N : List Str} {κ : Str → Int} {n : Nat} {Ps : List (List Int)} {a b : Ef} (h1 : ¬ occ N a = false) (h : occ N b = false) : fm N κ n Ps (.bin .mul a b) = (fm N κ n Ps a).times (evE κ b) := by
  rw [fm, if_neg h1, if_pos h, fm_const b h]
  rfl
theorem fm_bin_prod {N : List Str} {κ : Str → Int} {n : Nat} {Ps : List (List Int)} {a b : Ef} (h1 : ¬ occ N a = false) (h : ¬ occ N b = false) : fm N κ n Ps (.bin .mul a b) = .prod ((fm N κ n Ps a).low n Ps) ((fm N κ n Ps a).high n Ps) ((fm N κ n Ps b).low n Ps) ((fm N κ n Ps b).high n Ps) := by
  rw [fm, if_neg h1, if_neg h]
def LeFm (A B : Fm) : Prop := B.c = A.c ∧ A.lo ≤ B.lo ∧ B.hi ≤ A.hi
theorem prod_mono {a1 b1 a2 b2 c1 d1 c2 d2 : Int} (h1 : a1 ≤ c1) (h2 : c1 ≤ d1) (h3 : d1 ≤ b1) (h4 : a2 ≤ c2) (h5 : c2 ≤ d2) (h6 : d2 ≤ b2) : LeFm (.prod a1 b1 a2 b2) (.prod c1 d1 c2 d2) :=
  have z := corner_mono h1 h2 h3 h4 h5 h6
  ⟨rfl, z.1, z.2⟩
theorem fm_mono {N : List Str} {κ : Str → Int} {n : Nat} {Ps Qs : List (List Int)} {q : List Int} (hq : q ∈ Qs) (sub : ∀ r ∈ Qs, r ∈ Ps) (e : Ef) : LeFm (fm N κ n Ps e) (fm N κ n Qs e) := by
  induction e with
  | num i => exact ⟨rfl, Int.le_refl _, Int.le_refl _⟩
  | var y =>
    unfold fm
    split
    · exact ⟨rfl, Int.le_refl _, Int.le_refl _⟩
    · exact ⟨rfl, Int.le_refl _, Int.le_refl _⟩
  | bin o a b h1 h2 =>
    have ga := fm_le (N := N) (κ := κ) (n := n) (Ps := Qs) a
    have gb := fm_le (N := N) (κ := κ) (n := n) (Ps := Qs) b
    cases o with
    | add =>
      rw [fm_bin_add, fm_bin_add]
      exact add_mono _ _ _ _ h1.1 h2.1 h1.2.1 h2.2.1 h1.2.2 h2.2.2
    | sub =>
      rw [fm_bin_sub, fm_bin_sub]
      have g := times_mono _ _ (-1) h2.1 h2.2.1 h2.2.2 gb
      exact add_mono _ _ _ _ h1.1 g.1 h1.2.1 g.2.1 h1.2.2 g.2.2
    | mul =>
      by_cases oa : occ N a = false
      · rw [fm_bin_mulL oa, fm_bin_mulL oa]
        exact times_mono _ _ _ h2.1 h2.2.1 h2.2.2 gb
      · by_cases ob : occ N b = false
        · rw [fm_bin_mulR oa ob, fm_bin_mulR oa ob]
          exact times_mono _ _ _ h1.1 h1.2.1 h1.2.2 ga
        · rw [fm_bin_prod oa ob, fm_bin_prod oa ob]
          have x := low_fm (n := n) hq sub _ _ h1.1 h1.2.1 h1.2.2 ga
          have y := low_fm (n := n) hq sub _ _ h2.1 h2.2.1 h2.2.2 gb
          exact prod_mono x.1 x.2.1 x.2.2 y.1 y.2.1 y.2.2
/-! ### law k23: what is asked for one expression -/
theorem TPts.mx {K : PySem.W.Frag} {H : Hp} {p : Addr} {Ps : List (List Int)} (h : TPts H p Ps) : Mx false true K H p Ps := by
  obtain ⟨as, e, h1, h2⟩ := h
  exact ⟨as, SqL.of e, h1, fun i b r e1 e2 => SqT.of (h2 i b r e1 e2)⟩
theorem dp_ints23 {K : PySem.W.Frag} {H : Hp} : ∀ ns : List Int, DpAll K H (ns.map V.int) (ns.map PyData.int)
  | [] => .nil
  | n :: ns => .cons (.int n) (dp_ints23 ns)
theorem dok_ints {n : Nat} (ns : List Int) : ∀ d ∈ ns.map PyData.int, Dok (n + 1) d := fun d hd => by
  obtain ⟨i, _, rfl⟩ := List.mem_map.mp hd
  trivial
theorem fm_dp {K : PySem.W.Frag} {H : Hp} {f : Addr} {n : Nat} {F : Fm} (h : FmAt K H f n F) : Dp K H (.ref f) (.tuple [.tuple ((mkR n F.c).map PyData.int), .int F.lo, .int F.hi]) := by
  obtain ⟨c, h1, h2⟩ := h
  exact .tup h1 (.cons (.tup h2 (dp_ints23 _)) (.cons (.int _) (.cons (.int _) .nil)))
theorem bb_sum : bootBuiltins "sum" = some (.builtin "sum") := by decide +kernel
theorem FmAt.keepT {K : PySem.W.Frag} {H H' : Hp} {f : Addr} {n : Nat} {F : Fm} (k : KeepT K H H') (h : FmAt K H f n F) : FmAt K H' f n F := by
  obtain ⟨c, h1, h2⟩ := h
  exact ⟨c, k _ _ h1, k _ _ h2⟩
theorem Mx.keepT {K : PySem.W.Frag} {H H' : Hp} {p : Addr} {M : List (List Int)} (k : KeepT K H H') (h : Mx true true K H p M) : Mx true true K H' p M := by
  obtain ⟨as, h1, h2, h3⟩ := h
  exact ⟨as, k _ _ h1, h2, fun i b r e1 e2 => k _ _ (h3 i b r e1 e2)⟩
theorem same_none {H H' : Hp} {p : Addr} (s : Same H H') (h : H' p = none) : H p = none := by
  cases e : H p with
  | none => rfl
  | some o => rw [s _ _ e] at h; cases h
theorem keepT_dk {K : PySem.W.Frag} {H : Hp} {d : Addr} {kvs : List (Key × V)} {o : HO} (h : H d = some (.dK kvs)) : KeepT K H (upd H d o) := fun p xs hp => by
  have ne : ∀ {u : HO}, H p = some u → (∀ ys, u ≠ .dK ys) → p ≠ d := fun e n z => by
    rw [z, h] at e
    exact n _ (Option.some.inj e).symm
  rcases hp with (q | ⟨o', q⟩) | q
  · exact .inl (.inl (by rw [upd_ne (ne q (fun _ z => nomatch z))]; exact q))
  · exact .inl (.inr ⟨o', by rw [upd_ne (ne q (fun _ z => nomatch z))]; exact q⟩)
  · exact .inr q
def spAsk23 (K : PySem.W.Frag) : Sp := fun vs H Q _ => ∃ (v : V) (dk nl p : Addr) (e : Ef) (kvs : List (Key × V)) (N S : List Str) (κ : Str → Int) (n : Nat) (Ps : List (List Int)), vs = [v, .ref dk, .ref nl, .ref p] ∧ Env23 H dk nl p kvs N S κ n Ps ∧ EfAt K H e v ∧ e.ok S 7 ∧ N.Nodup ∧ kvs.length ≤ 10 ∧
  (∀ k v, valV kvs k = some v → (∃ z, k = Sum.inr z) ∧ (v = .non ∨ (∃ b, v = .bl b) ∨ ∃ i, v = .int i)) ∧ Ps.length ≤ 30 ∧ ∀ f H', Same H H' → FmAt K H' f n (fm N κ n Ps e) → Q (.ref f) H'
section
variable {P : Program} {w : World} {K : PySem.W.Frag} {mg : Str → Option Value} {base : Heap}
theorem ok_l_asked (T : Txt w K mg) : FnOk P w K mg base CX0 42 T.a_l_asked T.d_l_asked p_l_asked (spAsk23 K) := by
  have g_l_box := ok_l_box (P := P) (w := w) (K := K) (base := base) T
  have g_l_form := ok_l_form (P := P) (w := w) (K := K) (base := base) T (m := 7) (by decide) (ok_l_add T 7 (by decide))
  have g_form_of := ok_form_of (P := P) (w := w) (K := K) (base := base) T 7 (by decide)
  have g_l_same := ok_l_same (P := P) (w := w) (K := K) (base := base) T 3
  have g_l_kept := ok_l_kept (P := P) (w := w) (K := K) (base := base) T
  have g_range_of_form := ok_range_of_form (P := P) (w := w) (K := K) (base := base) T
  have g_l_spread := ok_l_spread (P := P) (w := w) (K := K) (base := base) T
  have g_l_value := ok_l_value (P := P) (w := w) (K := K) (base := base) T 7 (by decide)
  have g_l_values_at := ok_l_values_at (P := P) (w := w) (K := K) (base := base) T
  refine T.F_l_asked.ok sc_l_asked (fun vs H Q E h => ?_) (fun cdv A outer s H vs Q E hr h => ?_)
  · obtain ⟨v, dk, nl, p, e, kvs, N, S, κ, n, Ps, rfl, _⟩ := h
    rfl
  obtain ⟨v, dk, nl, p, e, kvs, N, S, κ, n, Ps, rfl, en, hx, oe, nd, lk, hf, lP, q⟩ := h
  refine ⟨_, (pss_cons (ps_set (i := 4) sc_l_asked.nd rfl (Or.inl rfl) (pe_call g_l_box (hr.mono (by first | decide | omega)) rfl T.m_l_box T.F_l_box.kp T.b_l_box .nil pass0 (pa_cons (pv 3) pa_nil)))
      (pss_cons (ps_set (i := 5) sc_l_asked.nd rfl (Or.inr rfl) (pe_call g_l_form (hr.mono (by first | decide | omega)) rfl T.m_l_form T.F_l_form.kp T.b_l_form .nil pass0 (pa_cons (pv 0) (pa_cons (pv 1) (pa_cons (pv 2) (pa_cons (pv 3) pa_nil))))))
      (pss_cons (ps_set (i := 6) sc_l_asked.nd rfl (Or.inl rfl) (pe_callTy call_dictD rfl T.z_dict bt_dict (pa_cons (pv 1) pa_nil)))
      (pss_cons (ps_set (i := 7) sc_l_asked.nd rfl (Or.inl rfl) (pe_call g_form_of (hr.mono (by first | decide | omega)) rfl T.m_form_of T.F_form_of.kp T.b_form_of .nil pass0 (pa_cons (pv 0) (pa_cons (pv 6) (pa_cons (pe_callTy TZ.call_tuple_fz rfl T.z_tuple bt_tuple (pa_cons (pv 2) pa_nil)) (pa_cons (pv 4) pa_nil))))))
      (pss_cons (ps_if (PW.pt (pw_or (pt_not (pt_val (pe_call g_l_same (hr.mono (by first | decide | omega)) rfl T.m_l_same T.F_l_same.kp T.b_l_same .nil pass0 (pa_cons (pv 7) (pa_cons (pv 5) pa_nil))))) (pw_or1 (pt_not (pt_val (pe_call g_l_kept (hr.mono (by first | decide | omega)) rfl T.m_l_kept T.F_l_kept.kp T.b_l_kept .nil pass0 (pa_cons (pv 6) (pa_cons (pv 1) pa_nil)))))))) (pss_one (ps_ret pe_non)) pss_nil)
      (pss_cons (ps_expr (pe_dclear (pv 6)))
      (pss_cons (ps_set (i := 8) sc_l_asked.nd rfl (Or.inl rfl) (pe_call g_range_of_form (hr.mono (by first | decide | omega)) rfl T.m_range_of_form T.F_range_of_form.kp T.b_range_of_form .nil pass0 (pa_cons (pv 5) (pa_cons (pv 4) pa_nil))))
      (pss_cons (ps_if (pt_not (pt_val (pe_call g_l_same (hr.mono (by first | decide | omega)) rfl T.m_l_same T.F_l_same.kp T.b_l_same .nil pass0 (pa_cons (pv 8) (pa_cons (pe_call g_l_spread (hr.mono (by first | decide | omega)) rfl T.m_l_spread T.F_l_spread.kp T.b_l_spread .nil pass0 (pa_cons (pv 5) (pa_cons (pv 3) pa_nil))) pa_nil))))) (pss_one (ps_ret pe_non)) pss_nil)
      (pss_cons (ps_set (i := 9) sc_l_asked.nd rfl (Or.inl rfl) (pe_callTy call_tuple_of rfl T.z_tuple bt_tuple (pa_cons (pe_lc (own := [("_law_k", 10)]) (g := gName 10) (tt := tYes) rfl sc_l_asked.nd (pi_range1 rfl T.z_range (pa_cons (pe_callB call_len_seq rfl T.z_len PySem.boot_len (pa_cons (pe_ix ix_list (pv 3) pe_int (fun _ _ => rfl)) pa_nil)) pa_nil)) (blkOk_by (own := [("_law_k", 10)]) (N := n_l_asked) (sc := defScope s_l_asked) (by decide +kernel)) (fun _ _ _ _ _ => (pg_name (i := 10) sc_l_asked.nd rfl (Or.inr rfl))) (fun _ _ _ _ _ => pts_nil) (fun _ _ _ _ _ => (pe_callB (show CallR _ _ (rMin K) from (cr_min rfl)) rfl T.z_min bb_min (pa_cons (pe_lc (own := [("_law_one_here", 11)]) (g := gName 11) (tt := tYes) rfl sc_l_asked.nd (show PI _ _ _ (iList K _) from (pi_list (pv 3))) (blkOk_by (own := [("_law_one_here", 11)]) (N := n_l_asked) (sc := relS _ (defScope s_l_asked)) (by decide +kernel)) (fun _ _ _ _ _ => (pg_name (i := 11) sc_l_asked.nd rfl (Or.inl rfl))) (fun _ _ _ _ _ => pts_nil) (fun _ _ _ _ _ => (pe_ix (show IxR _ (rIxT K) from ix_tup) (pv 11) (pv 10) (fun _ _ => rfl)))) pa_nil)))) pa_nil)))
      (pss_cons (ps_set (i := 12) sc_l_asked.nd rfl (Or.inl rfl) (pe_callTy call_tuple_of rfl T.z_tuple bt_tuple (pa_cons (pe_lc (own := [("_law_k", 10)]) (g := gName 10) (tt := tYes) rfl sc_l_asked.nd (pi_range1 rfl T.z_range (pa_cons (pe_callB call_len_seq rfl T.z_len PySem.boot_len (pa_cons (pe_ix ix_list (pv 3) pe_int (fun _ _ => rfl)) pa_nil)) pa_nil)) (blkOk_by (own := [("_law_k", 10)]) (N := n_l_asked) (sc := defScope s_l_asked) (by decide +kernel)) (fun _ _ _ _ _ => (pg_name (i := 10) sc_l_asked.nd rfl (Or.inr rfl))) (fun _ _ _ _ _ => pts_nil) (fun _ _ _ _ _ => (pe_callB (show CallR _ _ (rMax K) from (cr_max rfl)) rfl T.z_max bb_max (pa_cons (pe_lc (own := [("_law_one_here", 11)]) (g := gName 11) (tt := tYes) rfl sc_l_asked.nd (show PI _ _ _ (iList K _) from (pi_list (pv 3))) (blkOk_by (own := [("_law_one_here", 11)]) (N := n_l_asked) (sc := relS _ (defScope s_l_asked)) (by decide +kernel)) (fun _ _ _ _ _ => (pg_name (i := 11) sc_l_asked.nd rfl (Or.inl rfl))) (fun _ _ _ _ _ => pts_nil) (fun _ _ _ _ _ => (pe_ix (show IxR _ (rIxT K) from ix_tup) (pv 11) (pv 10) (fun _ _ => rfl)))) pa_nil)))) pa_nil)))
      (pss_cons (ps_for PassesOwn.never rfl (pi_list (pe_op op_cat (pv 3) (pe_lst (pa_cons (pv 9) (pa_cons (pv 12) pa_nil))))) (pg_name (i := 13) sc_l_asked.nd rfl (Or.inr rfl))
        (pss_cons (ps_set (i := 14) sc_l_asked.nd rfl (Or.inl rfl) (pe_call g_l_value (hr.mono (by first | decide | omega)) rfl T.m_l_value T.F_l_value.kp T.b_l_value .nil pass0 (pa_cons (pv 0) (pa_cons (pe_call g_l_values_at (hr.mono (by first | decide | omega)) rfl T.m_l_values_at T.F_l_values_at.kp T.b_l_values_at .nil pass0 (pa_cons (pv 1) (pa_cons (pv 2) (pa_cons (pv 13) pa_nil)))) pa_nil))))
      (pss_cons (ps_set (i := 15) sc_l_asked.nd rfl (Or.inl rfl) (pe_op op_sub (pv 14) (pe_callB (cr_sum rfl) rfl T.z_sum bb_sum (pa_cons (pe_lc (own := [("_law_k", 10)]) (g := gName 10) (tt := tYes) rfl sc_l_asked.nd (pi_range1 rfl T.z_range (pa_cons (pe_callB call_len_seq rfl T.z_len PySem.boot_len (pa_cons (pv 13) pa_nil)) pa_nil)) (blkOk_by (own := [("_law_k", 10)]) (N := n_l_asked) (sc := defScope s_l_asked) (by decide +kernel)) (fun _ _ _ _ _ => (pg_name (i := 10) sc_l_asked.nd rfl (Or.inl rfl))) (fun _ _ _ _ _ => pts_nil) (fun _ _ _ _ _ => (pe_op op_mulW (pe_ix (show IxR _ (rIxT K) from ix_tup) (pe_ix (show IxR _ (rIxT K) from ix_tup) (pv 5) pe_int (fun _ _ => rfl)) (pv 10) (fun _ _ => rfl)) (pe_ix (show IxR _ (rIxT K) from ix_tup) (pv 13) (pv 10) (fun _ _ => rfl))))) pa_nil))))
      (pss_one (ps_if (PW.pt (pw_or (pt_not (pt_chain op_le op_le (pe_ix ix_tup (pv 5) pe_int (fun _ _ => rfl)) (pv 15) (pe_ix ix_tup (pv 5) pe_int (fun _ _ => rfl)))) (pw_or1 (pt_not (pt_chain op_le op_le (pe_ix ix_tup (pv 8) pe_int (fun _ _ => rfl)) (pv 14) (pe_ix ix_tup (pv 8) pe_int (fun _ _ => rfl))))))) (pss_one (ps_ret pe_non)) pss_nil)))))
      (pss_one (ps_ret (pv 7)))))))))))))), ?_⟩
  have hn := en.hn
  refine ⟨_, rfl, p, n, Ps, rfl, by omega, en.p.mx, en.lr, by omega, fun vb H1 s1 hb => ?_⟩
  rw [hull_some en.ne] at hb
  obtain ⟨pb, rfl, mB⟩ := hb
  have en1 := en.same s1
  refine ⟨_, rfl, _, rfl, _, rfl, _, rfl, dk, nl, p, v, e, kvs, N, S, κ, n, Ps, rfl, en1, hx.same s1, oe, fun fd H2 s2 hfd => ?_⟩
  have s12 := s1.trans s2
  have en2 := en.same s12
  refine ⟨_, rfl, dk, kvs, rfl, .inl en2.d, fun hd hhd => ?_⟩
  have s3 := Same.new hhd (.dK kvs)
  refine ⟨_, rfl, _, rfl, _, rfl, nl, _, rfl, SqL.of (s3 _ _ en2.nm), fun nt o hnt ho1 ho2 => ?_⟩
  have s4 := Same.new hnt (.frz o (.tup (N.map V.str)))
  have s04 := (s12.trans s3).trans s4
  have hkd : (upd (upd H2 hd (.dK kvs)) nt (.frz o (.tup (N.map V.str)))) hd = some (.dK kvs) := s4 _ _ upd_same
  have hfd4 := (hfd.same s3).same s4
  have nhd0 : H hd = none := same_none s12 hhd
  have nhk : hd ≠ dk := fun z => by rw [z, en2.d] at hhd; cases hhd
  refine ⟨_, rfl, v, hd, nt, pb, kvs, N, S, κ, n, Ps, e, rfl, by omega, hx.same s04, oe, hkd, en.k, fun z _ _ => en.b z, ⟨.inl (.inr ⟨o, upd_same⟩), o, _, upd_same, ho2⟩, en.ln, en.ne, en.pb, ((mB.same s2).same s3).same s4, fun f H5 s5 hf5 => ?_⟩
  have s05 := s04.trans s5
  have hfd5 := hfd4.same s5
  have mB5 := (((mB.same s2).same s3).same s4).same s5
  have hkd5 := s5 _ _ hkd
  clear hfd4 hkd hfd mB s4 s3
  have dk3 : Dok 3 (.tuple [.tuple ((mkR n (fm N κ n Ps e).c).map PyData.int), .int (fm N κ n Ps e).lo, .int (fm N κ n Ps e).hi]) := by
    refine ⟨by show 3 ≤ 100000; decide, fun d hd => ?_⟩
    simp only [List.mem_cons, List.not_mem_nil, or_false] at hd
    rcases hd with rfl | rfl | rfl
    · exact ⟨by rw [List.length_map, mkR_len]; omega, dok_ints _⟩
    · trivial
    · trivial
  refine ⟨_, rfl, _, rfl, _, _, _, rfl, fm_dp hf5, fm_dp hfd5, dk3, ⟨_, rfl, iteF ⟨_, rfl, _, rfl, hd, dk, kvs, rfl, hkd5, s05 _ _ en.d, nhk, lk, hf, ⟨_, rfl, ifF rfl ?_⟩⟩⟩⟩
  refine ⟨_, rfl, .inr (.inr (.inl ⟨rfl, .inl ⟨_, hkd5⟩⟩)), hd, kvs, rfl, rfl, hkd5, ?_⟩
  have kc := keepT_dk (K := K) (o := .dK []) hkd5
  have s06 : Same H (upd H5 hd (.dK [])) := fun b o e => by rw [upd_ne (ne_of_none e nhd0)]; exact s05 _ _ e
  have hf6 := hf5.keepT kc
  have hfd6 := hfd5.keepT kc
  have mB6 := mB5.keepT kc
  clear kc hf5 hfd5 mB5 hkd5 s05 s5 s04 s12 s2 s1 dk3
  generalize (upd H5 hd (.dK [])) = H6 at s06 hf6 hfd6 mB6 ⊢
  have en6 := en.same s06
  have ln : ∀ G : Fm, (mkR n G.c).length = n := fun G => mkR_len
  have sM := hullM_sz n Ps
  have eb := entB_hull (n := n) en.ne en.pb
  refine ⟨_, rfl, _, rfl, fd, pb, hullM n Ps, mkR n (fm N κ n Ps e).c, _, _, rfl, hfd6, eb, by rw [ln]; omega, mB6, by rw [ln]; exact sM, fun t1 H7 L1 G1 s7 ht1 r1 => ?_⟩
  have r1' : RngF (hullM (mkR n (fm N κ n Ps e).c).length Ps) (mkR n (fm N κ n Ps e).c) (fm N κ n Ps e).lo (fm N κ n Ps e).hi L1 G1 := by rw [ln]; exact r1
  obtain ⟨rfl, rfl⟩ := rng_is en.ne r1'
  have en7 := en6.same s7
  refine ⟨_, rfl, _, rfl, _, rfl, fd, p, mkR n (fm N κ n Ps e).c, _, _, Ps, rfl, hfd6.same s7, en.pb, by rw [ln]; omega, en7.p, en.ne, en.lp, fun r hr => by rw [ln]; exact en.lr r hr, fun t2 H8 L2 G2 s8 ht2 d1 d2 => ?_⟩
  obtain ⟨rfl, rfl⟩ := spr_is d1 d2
  have ht18 := s8 _ _ ht1
  refine ⟨.ref t1, .ref t2, .tuple [.int (lowF (mkR n (fm N κ n Ps e).c) (fm N κ n Ps e).lo Ps), .int (highF (mkR n (fm N κ n Ps e).c) (fm N κ n Ps e).hi Ps)], rfl, .tup (SqT.of ht18) (.cons (.int _) (.cons (.int _) .nil)), .tup (SqT.of ht2) (.cons (.int _) (.cons (.int _) .nil)), ⟨by show 2 ≤ 100000; decide, fun d hd => ?_⟩, ⟨_, rfl, ifF rfl ?_⟩⟩
  · simp only [List.mem_cons, List.not_mem_nil, or_false] at hd
    rcases hd with rfl | rfl <;> trivial
  have s68 := s7.trans s8
  have s08 := s06.trans s68
  have hf8 := hf6.same s68
  have hfd8 := hfd6.same s68
  clear ht1 ht2 r1 r1' d1 d2 hf6 hfd6 mB6 en7 en6 sM eb s7 s8 s68 s06
  obtain ⟨as, hpp, ha⟩ := id en.p
  have la := ha.1
  have las : 0 < as.length := by rw [ha.1]; exact List.length_pos_iff.mpr en.ne
  have f1 : as[0]? = some as[0] := List.getElem?_eq_getElem las
  have f2 : Ps[0]? = some (Ps[0]'(by rw [← ha.1]; exact las)) := List.getElem?_eq_getElem _
  have g1 := ha.2 0 _ _ f1 f2
  have lr0 := en.lr _ (List.mem_of_getElem? f2)
  generalize as[0] = a0 at f1 g1
  generalize (Ps[0]'(by rw [← ha.1]; exact las)) = r0 at f2 g1 lr0
  have ly : (((r0.map V.int).length : Nat) : Int).toNat = n := by rw [List.length_map, lr0]; omega
  have lz : (r0.map V.int).length = n := by rw [List.length_map, lr0]
  -- the point of all least values
  refine ⟨_, rfl, p, _, 0, _, rfl, rfl, SqL.of (s08 _ _ hpp), atI_nat (j := 0) (map_get f1), a0, _, rfl, .inr (SqT.of (s08 _ _ g1)), _, rfl, by omega, by omega, fun Da hDa => ?_⟩
  refine lc_it walk_range (LcP (Same H8) (fun k y _ => ∃ m : Int, y = .int m ∧ (∃ r ∈ Ps, m = r.getD k 0) ∧ ∀ r ∈ Ps, m ≤ r.getD k 0) Da) (lcp_start hDa) (fun _ _ _ _ => trivial) ?_ ?_
  · rintro k x F F' hk PF ⟨rfl, rfl⟩
    rw [ly] at hk
    have hk2 : k < n := by omega
    have sF := s08.trans PF.1
    refine ⟨rfl, tyes ?_⟩
    refine ⟨_, rfl, p, rfl, ⟨_, SqL.of (sF _ _ hpp)⟩, fun D2 hD2 => ?_⟩
    refine lc_it (walk_list (xs := as.map V.ref)) (LcP (Same F') (RInt (Ps.map fun r => r.getD k 0)) D2) (lcp_start hD2) (fun _ G _ P => SqL.of (P.1 _ _ (sF _ _ hpp))) ?_ ?_
    · rintro j x G G' hj PG ⟨rfl, ex⟩
      rw [List.length_map] at hj
      rw [map_get (List.getElem?_eq_getElem hj)] at ex
      obtain rfl := Option.some.inj ex
      have er : Ps[j]? = some (Ps[j]'(by rw [← ha.1]; exact hj)) := List.getElem?_eq_getElem _
      have g2 := ha.2 j _ _ (List.getElem?_eq_getElem hj) er
      have lr2 := en.lr _ (List.mem_of_getElem? er)
      generalize (Ps[j]'(by rw [← ha.1]; exact hj)) = rj at er g2 lr2
      refine ⟨rfl, tyes ?_⟩
      refine ⟨_, rfl, _, rfl, as[j], _, _, _, rfl, rfl, SqT.of (PG.1 _ _ (sF _ _ g2)), (by rw [Int.zero_add]; exact coef0 (cs := rj) (by omega)), ?_⟩
      exact lcp_same PG hD2 (Same.refl _) (lt_line (by omega)) RInt.mono ⟨_, map_get er, rfl⟩
    · intro G PG
      have ei := lcp_ints (K := K) PG (by rw [List.length_map, List.length_map, ha.1])
      refine ⟨D2, _, rfl, SqL.of ei, by rw [List.length_map]; exact List.length_pos_iff.mpr en.ne, fun m hm hx => ?_⟩
      refine lcp_same PF hDa PG.1 (lt_line (by omega)) (fun _ _ _ _ h _ => h) ⟨m, rfl, ?_, fun r hr => hx _ (List.mem_map.mpr ⟨r, hr, rfl⟩)⟩
      obtain ⟨r, hr, e⟩ := List.mem_map.mp hm
      exact ⟨r, hr, e.symm⟩
  intro Ha Pa
  obtain ⟨sa, acc, ea, lacc, racc⟩ := Pa
  obtain ⟨xa, rfl⟩ := ints_of fun j y e => by
    obtain ⟨m, e, _⟩ := racc j y e
    exact ⟨m, e⟩
  rw [List.length_map, ly] at lacc
  have za : ∀ k < n, (∃ r ∈ Ps, xa.getD k 0 = r.getD k 0) ∧ ∀ r ∈ Ps, xa.getD k 0 ≤ r.getD k 0 := fun k hk => by
    obtain ⟨m, e, m1, m2⟩ := racc k _ (map_get (List.getElem?_eq_getElem (by omega)))
    cases e
    rw [List.getD_eq_getElem?_getD, List.getElem?_eq_getElem (by omega : k < xa.length)]
    exact ⟨m1, m2⟩
  refine ⟨Da, _, rfl, .inl ⟨SqL.of ea, fun ta hta => ?_⟩⟩
  have sa9 := sa.trans (Same.new hta (.tup (xa.map V.int)))
  have s09 := s08.trans sa9
  have hta9 : (upd Ha ta (.tup (xa.map V.int))) ta = some (.tup (xa.map V.int)) := upd_same
  generalize (upd Ha ta (.tup (xa.map V.int))) = H9 at s09 sa9 hta9 ⊢
  -- the point of all greatest values
  refine ⟨_, rfl, p, _, 0, _, rfl, rfl, SqL.of (s09 _ _ hpp), atI_nat (j := 0) (map_get f1), a0, _, rfl, .inr (SqT.of (s09 _ _ g1)), _, rfl, by omega, by omega, fun Db hDb => ?_⟩
  refine lc_it walk_range (LcP (Same H9) (fun k y _ => ∃ m : Int, y = .int m ∧ (∃ r ∈ Ps, m = r.getD k 0) ∧ ∀ r ∈ Ps, r.getD k 0 ≤ m) Db) (lcp_start hDb) (fun _ _ _ _ => trivial) ?_ ?_
  · rintro k x F F' hk PF ⟨rfl, rfl⟩
    rw [ly] at hk
    have hk2 : k < n := by omega
    have sF := s09.trans PF.1
    refine ⟨rfl, tyes ?_⟩
    refine ⟨_, rfl, p, rfl, ⟨_, SqL.of (sF _ _ hpp)⟩, fun D2 hD2 => ?_⟩
    refine lc_it (walk_list (xs := as.map V.ref)) (LcP (Same F') (RInt (Ps.map fun r => r.getD k 0)) D2) (lcp_start hD2) (fun _ G _ P => SqL.of (P.1 _ _ (sF _ _ hpp))) ?_ ?_
    · rintro j x G G' hj PG ⟨rfl, ex⟩
      rw [List.length_map] at hj
      rw [map_get (List.getElem?_eq_getElem hj)] at ex
      obtain rfl := Option.some.inj ex
      have er : Ps[j]? = some (Ps[j]'(by rw [← ha.1]; exact hj)) := List.getElem?_eq_getElem _
      have g2 := ha.2 j _ _ (List.getElem?_eq_getElem hj) er
      have lr2 := en.lr _ (List.mem_of_getElem? er)
      generalize (Ps[j]'(by rw [← ha.1]; exact hj)) = rj at er g2 lr2
      refine ⟨rfl, tyes ?_⟩
      refine ⟨_, rfl, _, rfl, as[j], _, _, _, rfl, rfl, SqT.of (PG.1 _ _ (sF _ _ g2)), (by rw [Int.zero_add]; exact coef0 (cs := rj) (by omega)), ?_⟩
      exact lcp_same PG hD2 (Same.refl _) (lt_line (by omega)) RInt.mono ⟨_, map_get er, rfl⟩
    · intro G PG
      have ei := lcp_ints (K := K) PG (by rw [List.length_map, List.length_map, ha.1])
      refine ⟨D2, _, rfl, SqL.of ei, by rw [List.length_map]; exact List.length_pos_iff.mpr en.ne, fun m hm hx => ?_⟩
      refine lcp_same PF hDb PG.1 (lt_line (by omega)) (fun _ _ _ _ h _ => h) ⟨m, rfl, ?_, fun r hr => hx _ (List.mem_map.mpr ⟨r, hr, rfl⟩)⟩
      obtain ⟨r, hr, e⟩ := List.mem_map.mp hm
      exact ⟨r, hr, e.symm⟩
  intro Hb Pb
  obtain ⟨sb, acc, eb, laccb, raccb⟩ := Pb
  obtain ⟨xb, rfl⟩ := ints_of fun j y e => by
    obtain ⟨m, e, _⟩ := raccb j y e
    exact ⟨m, e⟩
  rw [List.length_map, ly] at laccb
  have zb : ∀ k < n, (∃ r ∈ Ps, xb.getD k 0 = r.getD k 0) ∧ ∀ r ∈ Ps, r.getD k 0 ≤ xb.getD k 0 := fun k hk => by
    obtain ⟨m, e, m1, m2⟩ := raccb k _ (map_get (List.getElem?_eq_getElem (by omega)))
    cases e
    rw [List.getD_eq_getElem?_getD, List.getElem?_eq_getElem (by omega : k < xb.length)]
    exact ⟨m1, m2⟩
  refine ⟨Db, _, rfl, .inl ⟨SqL.of eb, fun tb htb => ?_⟩⟩
  have sb10 := sb.trans (Same.new htb (.tup (xb.map V.int)))
  have s0z := s09.trans sb10
  have htb10 : (upd Hb tb (.tup (xb.map V.int))) tb = some (.tup (xb.map V.int)) := upd_same
  have hta10 := sb10 _ _ hta9
  generalize (upd Hb tb (.tup (xb.map V.int))) = HZ at s0z sb10 hta10 htb10 ⊢
  have z010 := s08.trans (sa9.trans sb10)
  have hf10 := hf8.same (sa9.trans sb10)
  have hfd10 := hfd8.same (sa9.trans sb10)
  have ht10 := (sa9.trans sb10) _ _ ht18
  clear hf8 hfd8 ht18 sa9 sb10 hta9 s09 s08 ea eb sa sb s0z f1 f2 g1
  have bX : ∀ {x : List Int}, (∀ k < n, ∃ r ∈ Ps, x.getD k 0 = r.getD k 0) → x.length = n → ∀ k, -400000000000 ≤ x.getD k 0 ∧ x.getD k 0 ≤ 400000000000 := fun {x} h l k => by
    by_cases hk : k < n
    · obtain ⟨r, hr, e⟩ := h k hk
      rw [e]
      exact en.pb r hr k
    · rw [List.getD_eq_getElem?_getD, List.getElem?_eq_none (by omega)]
      show -400000000000 ≤ (0 : Int) ∧ (0 : Int) ≤ _
      decide
  have pts : ∀ y, y ∈ as.map V.ref ++ [V.ref ta, .ref tb] → ∃ (a : Addr) (x : List Int), y = .ref a ∧ HZ a = some (.tup (x.map V.int)) ∧ Zp n Ps x ∧ x.length = n ∧ ∀ k, -400000000000 ≤ x.getD k 0 ∧ x.getD k 0 ≤ 400000000000 := fun y hy => by
    rcases List.mem_append.mp hy with h | h
    · obtain ⟨a, ha2, rfl⟩ := List.mem_map.mp h
      obtain ⟨j, hj, rfl⟩ := List.getElem_of_mem ha2
      have er : Ps[j]? = some (Ps[j]'(by omega)) := List.getElem?_eq_getElem _
      have mr := List.mem_of_getElem? er
      exact ⟨_, _, rfl, z010 _ _ (ha.2 j _ _ (List.getElem?_eq_getElem hj) er), Zp.pt mr, en.lr _ mr, en.pb _ mr⟩
    · simp only [List.mem_cons, List.not_mem_nil, or_false] at h
      rcases h with rfl | rfl
      · exact ⟨ta, xa, rfl, hta10, Zp.least za, by omega, bX (fun k hk => (za k hk).1) (by omega)⟩
      · exact ⟨tb, xb, rfl, htb10, Zp.greatest zb, by omega, bX (fun k hk => (zb k hk).1) (by omega)⟩
  refine ⟨_, rfl, _, rfl, _, rfl, by show 2 ≤ sizeLine; decide, fun l2 hl2 => ?_⟩
  have sl2 := Same.new hl2 (.lst [.ref ta, .ref tb])
  refine ⟨p, l2, _, _, rfl, rfl, sl2 _ _ (z010 _ _ hpp), upd_same, ?_, fun L hL => ?_⟩
  · rw [List.length_map]
    show as.length + 2 ≤ sizeLine
    have : (100 : Nat) ≤ sizeLine := by decide
    omega
  have sL := sl2.trans (Same.new hL (.lst (as.map V.ref ++ [V.ref ta, .ref tb])))
  have hLL : (upd (upd HZ l2 (.lst [.ref ta, .ref tb])) L (.lst (as.map V.ref ++ [V.ref ta, .ref tb]))) L = some (.lst (as.map V.ref ++ [V.ref ta, .ref tb])) := upd_same
  generalize (upd (upd HZ l2 (.lst [.ref ta, .ref tb])) L (.lst (as.map V.ref ++ [V.ref ta, .ref tb]))) = HL at sL hLL ⊢
  have z0L := z010.trans sL
  have hfL := hf10.same sL
  obtain ⟨cd, hc1, hc2⟩ := hfd10.same sL
  have htL := sL _ _ ht10
  refine ⟨L, rfl, ⟨_, SqL.of hLL⟩, for_list (K := K) (a := L) (xs := as.map V.ref ++ [V.ref ta, .ref tb]) (fun _ σ G => Same HL G ∧ ∃ v13 v14 v15 : Option V, σ = [some v, some (.ref dk), some (.ref nl), some (.ref p), some (.ref pb), some (.ref fd), some (.ref hd), some (.ref f), some (.ref t1), some (.ref ta), none, none, some (.ref tb), v13, v14, v15])
    ⟨Same.refl _, none, none, none, rfl⟩ (fun _ σ G _ ⟨s, _⟩ => SqL.of (s _ _ hLL)) ?_ ?_⟩
  · rintro i y σ G ey ⟨sG, v13, v14, v15, rfl⟩
    obtain ⟨a, x, rfl, hax, zx, lx, bx⟩ := pts y (List.mem_of_getElem? ey)
    have s0G := z0L.trans sG
    have enG := en.same s0G
    have haG := sG _ _ (sL _ _ hax)
    refine ⟨_, rfl, _, rfl, _, rfl, _, rfl, dk, nl, a, kvs, N, x, rfl, enG.d, lk, enG.nm, SqT.of haG, nd, by have := en.ln; omega, by have := en.ln; omega, fun d2 G1 kv' sg _ hd2 v1 v2 => ?_⟩
    have bρ : ∀ z, Bd 40 (rho N κ x z) := fun z => by
      unfold rho
      split
      · have := bx (N.idxOf z)
        exact bd_small (by omega)
      · exact bd_small (en.b z)
    refine ⟨v, d2, e, S, rho N κ x, kv', rfl, hx.same (s0G.trans sg), oe, hd2, ev_at2 en.k v1 v2 oe, bρ, fun G2 sg2 => ?_⟩
    have sGG := (sG.trans sg).trans sg2
    have haZ := sGG _ _ (sL _ _ hax)
    refine ⟨_, rfl, _, rfl, a, _, rfl, .inr (SqT.of haZ), _, rfl, by omega, by rw [List.length_map]; omega, fun D hD => ?_⟩
    refine lc_it walk_range (LcP (Same G2) (RInt (mkR n fun k => (fm N κ n Ps e).c k * x.getD k 0)) D) (lcp_start hD) (fun _ _ _ _ => trivial) ?_ ?_
    · rintro k y F F' hk PF ⟨rfl, rfl⟩
      rw [List.length_map] at hk
      have hk2 : k < n := by omega
      have sF := sGG.trans PF.1
      have fb := fm_bd (N := N) (κ := κ) (n := n) en.ne en.pb (by omega) (fun z _ _ => en.b z) oe
      refine ⟨rfl, tyes ?_⟩
      refine ⟨_, rfl, fd, _, _, _, rfl, rfl, Same.tup sF hc1, rfl, _, rfl, cd, _, _, _, rfl, rfl, Same.tup sF hc2, (by rw [Int.zero_add]; exact atI_nat (map_get (mkR_at hk2))), _, rfl, _, rfl, a, _, _, _, rfl, rfl, SqT.of (PF.1 _ _ haZ), (by rw [Int.zero_add]; exact coef0 (by omega)), _, _, rfl, rfl, mulW (fb.c k hk2) (bd_small (by have := bx k; omega)) (by decide) (by decide), ?_⟩
      exact lcp_same PF hD (Same.refl _) (lt_line (by omega)) RInt.mono ⟨_, mkR_at hk2, rfl⟩
    · intro G3 P3
      have ei := lcp_ints (K := K) P3 (by rw [List.length_map, mkR_len, lx]; omega)
      have es : (mkR n fun k => (fm N κ n Ps e).c k * x.getD k 0).sum = vsum n (fm N κ n Ps e).c x := rfl
      have so := fm_sound zx en.ln (κ := κ) e
      have lz2 := low_zp (cs := mkR n (fm N κ n Ps e).c) (flo := (fm N κ n Ps e).lo) (fhi := (fm N κ n Ps e).hi) (Ps := Ps) (x := x) (by rw [mkR_len]; exact zx)
      rw [val_mkR] at lz2
      have s3 := sGG.trans P3.1
      have hc3 := Same.tup s3 hc1
      have ht3 : SqT K G3 t1 _ := SqT.of (s3 _ _ htL)
      refine ⟨D, _, rfl, SqL.of ei, _, _, rfl, rfl, ?_⟩
      rw [es]
      have c1 : (fm N κ n Ps e).lo ≤ evE (rho N κ x) e - vsum n (fm N κ n Ps e).c x := by omega
      have c2 : evE (rho N κ x) e - vsum n (fm N κ n Ps e).c x ≤ (fm N κ n Ps e).hi := by omega
      have c3 : lowF (mkR n (fm N κ n Ps e).c) (fm N κ n Ps e).lo Ps ≤ evE (rho N κ x) e := by omega
      have c4 : evE (rho N κ x) e ≤ highF (mkR n (fm N κ n Ps e).c) (fm N κ n Ps e).hi Ps := by omega
      refine ⟨_, rfl, fd, _, _, _, rfl, rfl, hc3, rfl, _, rfl, _, _, rfl, rfl, _, rfl, ifT (decide_eq_true c1) ⟨_, rfl, fd, _, _, _, rfl, rfl, hc3, rfl, _, _, rfl, rfl, _, rfl, ?_⟩⟩
      rw [decide_eq_true c2]
      refine iteF ?_
      refine ⟨_, rfl, t1, _, _, _, rfl, rfl, ht3, rfl, _, rfl, _, _, rfl, rfl, _, rfl, ifT (decide_eq_true c3) ⟨_, rfl, t1, _, _, _, rfl, rfl, ht3, rfl, _, _, rfl, rfl, _, rfl, ?_⟩⟩
      rw [decide_eq_true c4]
      refine ifF rfl ?_
      exact ⟨sGG.trans P3.1, _, _, _, rfl⟩
  · rintro σ G ⟨sG, v13, v14, v15, rfl⟩
    exact ⟨_, rfl, q f G (z0L.trans sG) (hfL.same sG)⟩
end
/-! ### law k23 -/
def spLaw (K : PySem.W.Frag) : Sp := fun vs H Q _ => ∃ (a : Addr) (ns : List Int), vs = [.ref a] ∧ SqL K H a (ns.map V.int) ∧ ns.length ≤ 63 ∧ ∀ H', Q (.bl true) H'
theorem shapedT (xs : List Int) : SeqAt.shaped (.tuple (xs.map PyData.int)) = true := by
  obtain ⟨h1, h2⟩ := shapedAllI xs
  unfold SeqAt.shaped
  rw [PyData.canLay0, h1, PyData.depth, h2]
  rfl
theorem neT {K : PySem.W.Frag} {H : Hp} {a b : Addr} {xs : List Int} {Q : VK} (ha : SqT K H a (xs.map V.int)) (hb : SqT K H b (xs.map V.int)) (q : Q (.bl false) H) : rNeD K (.ref a) (.ref b) H Q := by
  have e : PyData.eqv (.tuple (xs.map PyData.int)) (.tuple (xs.map PyData.int)) = true := by
    rw [PyData.eqv, eqvI]
    exact decide_eq_true rfl
  exact ⟨_, _, .tup ha (dpAllI xs), .tup hb (dpAllI xs), shapedT xs, shapedT xs, by rw [e]; exact q⟩
def kOf (kvs : List (Key × V)) (z : Str) : Int := match valV kvs (Sum.inr z) with
  | some (.int i) => if -1000000000000 ≤ i ∧ i ≤ 1000000000000 then i else 0
  | _ => 0
theorem kOf_b (kvs : List (Key × V)) (z : Str) : -1000000000000 ≤ kOf kvs z ∧ kOf kvs z ≤ 1000000000000 := by
  unfold kOf
  split
  · split
    · assumption
    · decide
  · decide
theorem Kn.k {S : List Str} {m : Nat} {kvs : List (Key × V)} (h : Kn S m kvs) {z : Str} (hz : z ∈ S) : valV kvs (Sum.inr z) = some (.int (kOf kvs z)) := by
  obtain ⟨i, e, b⟩ := h.g z hz
  unfold kOf
  rw [e]
  show some (V.int i) = some (V.int (if _ then _ else _))
  rw [if_pos (by omega)]
theorem cut_mid {xs : List V} {i j : Nat} (h : i ≤ j) (hj : j ≤ xs.length) : cutV xs (some (i : Int)) (some (j : Int)) = (xs.drop i).take (j - i) := by
  unfold cutV
  rw [HT.sIx_nat, HT.sIx_nat, Nat.min_eq_left hj, Nat.min_eq_left (Nat.le_trans h hj)]
theorem Ef.ok.le {S : List Str} {a b : Nat} {e : Ef} (h : e.ok S a) (l : a ≤ b) : e.ok S b := by
  induction l with
  | refl => exact h
  | step _ ih => exact ih.up
section
variable {P : Program} {w : World} {K : PySem.W.Frag} {mg : Str → Option Value} {base : Heap}
theorem ok_law (T : Txt w K mg) : FnOk P w K mg base CX0 43 T.a_law T.d_law p_law (spLaw K) := by
  have g_l_cell := ok_l_cell (P := P) (w := w) (K := K) (base := base) T
  have g_l_source := ok_l_source (P := P) (w := w) (base := base) T
  have g_l_pick := ok_l_pick (P := P) (w := w) (base := base) T
  have g_l_words := ok_l_words (P := P) (w := w) (base := base) T
  have g_l_order := ok_l_order (P := P) (w := w) (K := K) (base := base) T
  have g_l_number := ok_l_number (P := P) (w := w) (K := K) (base := base) T 7 (by decide)
  have g_l_known := ok_l_known (P := P) (w := w) (K := K) (base := base) T
  have g_l_cloud := ok_l_cloud (P := P) (w := w) (K := K) (base := base) T
  have g_l_asked := ok_l_asked (P := P) (w := w) (K := K) (base := base) T
  have g_l_drawn_form := ok_l_drawn_form (P := P) (w := w) (K := K) (base := base) T
  have g_range_of_form := ok_range_of_form (P := P) (w := w) (K := K) (base := base) T
  have g_l_box := ok_l_box (P := P) (w := w) (K := K) (base := base) T
  have g_l_spread := ok_l_spread (P := P) (w := w) (K := K) (base := base) T
  have g_l_same := ok_l_same (P := P) (w := w) (K := K) (base := base) T 3
  refine T.F_law.ok sc_law (fun vs H Q E h => ?_) (fun cdv A outer s H vs Q E hr h => ?_)
  · obtain ⟨a, ns, rfl, _⟩ := h
    rfl
  obtain ⟨a, ns, rfl, hS, h63, q⟩ := h
  refine ⟨_, (pss_cons (ps_set (i := 1) sc_law.nd rfl (Or.inl rfl) (pe_call g_l_source (hr.mono (by first | decide | omega)) rfl T.m_l_source T.F_l_source.kp T.b_l_source .nil pass0 (pa_cons (pe_op op_add (pe_op op_add (pe_call g_l_cell (hr.mono (by first | decide | omega)) rfl T.m_l_cell T.F_l_cell.kp T.b_l_cell .nil pass0 (pa_cons (pv 0) (pa_cons pe_int pa_nil))) (pe_op op_mul pe_int (pe_call g_l_cell (hr.mono (by first | decide | omega)) rfl T.m_l_cell T.F_l_cell.kp T.b_l_cell .nil pass0 (pa_cons (pv 0) (pa_cons pe_int pa_nil))))) (pe_op op_mul pe_int (pe_call g_l_cell (hr.mono (by first | decide | omega)) rfl T.m_l_cell T.F_l_cell.kp T.b_l_cell .nil pass0 (pa_cons (pv 0) (pa_cons pe_int pa_nil))))) pa_nil)))
      (pss_cons (ps_set (i := 2) sc_law.nd rfl (Or.inl rfl) (pe_call g_l_words (hr.mono (by first | decide | omega)) rfl T.m_l_words T.F_l_words.kp T.b_l_words .nil pass0 (pa_cons (pv 1) pa_nil)))
      (pss_cons (ps_set (i := 3) sc_law.nd rfl (Or.inl rfl) (pe_call g_l_order (hr.mono (by first | decide | omega)) rfl T.m_l_order T.F_l_order.kp T.b_l_order .nil pass0 (pa_cons (pv 1) (pa_cons (pe_slice sl_list (pv 2) po_none (po_some (pe_call g_l_pick (hr.mono (by first | decide | omega)) rfl T.m_l_pick T.F_l_pick.kp T.b_l_pick .nil pass0 (pa_cons (pv 1) (pa_cons pe_int pa_nil))))) pa_nil))))
      (pss_cons (ps_set (i := 4) sc_law.nd rfl (Or.inl rfl) (pe_op op_add (pe_callB call_len_seq rfl T.z_len PySem.boot_len (pa_cons (pv 3) pa_nil)) (pe_call g_l_pick (hr.mono (by first | decide | omega)) rfl T.m_l_pick T.F_l_pick.kp T.b_l_pick .nil pass0 (pa_cons (pv 1) (pa_cons pe_int pa_nil)))))
      (C8.pss_cut (ps_if (pt_cmpR op_eq (pe_call g_l_pick (hr.mono (by first | decide | omega)) rfl T.m_l_pick T.F_l_pick.kp T.b_l_pick .nil pass0 (pa_cons (pv 1) (pa_cons pe_int pa_nil))) pe_int (nomark _)) (pss_one (ps_set (i := 4) sc_law.nd rfl (Or.inl rfl) (pe_op op_add (pe_callB call_len_seq rfl T.z_len PySem.boot_len (pa_cons (pv 3) pa_nil)) (pe_call g_l_pick (hr.mono (by first | decide | omega)) rfl T.m_l_pick T.F_l_pick.kp T.b_l_pick .nil pass0 (pa_cons (pv 1) (pa_cons pe_int pa_nil)))))) pss_nil)
      (pss_cons (ps_set (i := 5) sc_law.nd rfl (Or.inl rfl) (pe_slice sl_list (pv 2) (po_some pe_int) (po_some (pe_op op_add pe_int (pe_call g_l_pick (hr.mono (by first | decide | omega)) rfl T.m_l_pick T.F_l_pick.kp T.b_l_pick .nil pass0 (pa_cons (pv 1) (pa_cons pe_int pa_nil)))))))
      (pss_cons (ps_set (i := 6) sc_law.nd rfl (Or.inl rfl) (pe_call g_l_number (hr.mono (by first | decide | omega)) rfl T.m_l_number T.F_l_number.kp T.b_l_number .nil pass0 (pa_cons (pv 1) (pa_cons (pe_op op_cat (pv 3) (pv 5)) (pa_cons (pe_call g_l_pick (hr.mono (by first | decide | omega)) rfl T.m_l_pick T.F_l_pick.kp T.b_l_pick .nil pass0 (pa_cons (pv 1) (pa_cons pe_int pa_nil))) pa_nil)))))
      (pss_cons (ps_set (i := 7) sc_law.nd rfl (Or.inl rfl) (pe_call g_l_known (hr.mono (by first | decide | omega)) rfl T.m_l_known T.F_l_known.kp T.b_l_known .nil pass0 (pa_cons (pv 1) (pa_cons (pv 2) (pa_cons (pv 5) pa_nil)))))
      (pss_cons (ps_set (i := 8) sc_law.nd rfl (Or.inl rfl) (pe_call g_l_known (hr.mono (by first | decide | omega)) rfl T.m_l_known T.F_l_known.kp T.b_l_known .nil pass0 (pa_cons (pv 1) (pa_cons (pv 2) (pa_cons (pv 5) pa_nil)))))
      (pss_cons (ps_set (i := 9) sc_law.nd rfl (Or.inl rfl) (pe_call g_l_cloud (hr.mono (by first | decide | omega)) rfl T.m_l_cloud T.F_l_cloud.kp T.b_l_cloud .nil pass0 (pa_cons (pv 1) (pa_cons (pv 4) pa_nil))))
      (pss_cons (ps_set (i := 10) sc_law.nd rfl (Or.inl rfl) (pe_call g_l_cloud (hr.mono (by first | decide | omega)) rfl T.m_l_cloud T.F_l_cloud.kp T.b_l_cloud .nil pass0 (pa_cons (pv 1) (pa_cons (pv 4) pa_nil))))
      (pss_cons (ps_set (i := 11) sc_law.nd rfl (Or.inl rfl) (pe_slice sl_list (pv 9) po_none (po_some (pe_op op_add pe_int (pe_call g_l_pick (hr.mono (by first | decide | omega)) rfl T.m_l_pick T.F_l_pick.kp T.b_l_pick .nil pass0 (pa_cons (pv 1) (pa_cons (pe_callB call_len_seq rfl T.z_len PySem.boot_len (pa_cons (pv 9) pa_nil)) pa_nil)))))))
      (pss_cons (ps_set (i := 12) sc_law.nd rfl (Or.inl rfl) (pe_call g_l_asked (hr.mono (by first | decide | omega)) rfl T.m_l_asked T.F_l_asked.kp T.b_l_asked .nil pass0 (pa_cons (pv 6) (pa_cons (pv 7) (pa_cons (pv 3) (pa_cons (pv 9) pa_nil))))))
      (pss_cons (ps_if (PW.pt (pw_or (pt_cmpR op_isN (pv 12) pe_non (nomark _)) (pw_or1 (pt_cmpR op_isN (pe_call g_l_asked (hr.mono (by first | decide | omega)) rfl T.m_l_asked T.F_l_asked.kp T.b_l_asked .nil pass0 (pa_cons (pv 6) (pa_cons (pv 8) (pa_cons (pv 3) (pa_cons (pv 10) pa_nil))))) pe_non (nomark _))))) (pss_one (ps_ret pe_bl)) pss_nil)
      (pss_cons (ps_set (i := 13) sc_law.nd rfl (Or.inl rfl) (pe_call g_l_asked (hr.mono (by first | decide | omega)) rfl T.m_l_asked T.F_l_asked.kp T.b_l_asked .nil pass0 (pa_cons (pv 6) (pa_cons (pv 7) (pa_cons (pv 3) (pa_cons (pv 11) pa_nil))))))
      (pss_cons (ps_if (PW.pt (pw_or (pt_cmpR op_isN (pv 13) pe_non (nomark _)) (pw_or (pt_cmpR (op_neD hr.units) (pe_ix ix_tup (pv 13) pe_int (fun _ _ => rfl)) (pe_ix ix_tup (pv 12) pe_int (fun _ _ => rfl)) (nomark _)) (pw_or (pt_cmpR op_lt (pe_ix ix_tup (pv 13) pe_int (fun _ _ => rfl)) (pe_ix ix_tup (pv 12) pe_int (fun _ _ => rfl)) (nomark _)) (pw_or1 (pt_cmpR op_gt (pe_ix ix_tup (pv 13) pe_int (fun _ _ => rfl)) (pe_ix ix_tup (pv 12) pe_int (fun _ _ => rfl)) (nomark _))))))) (pss_one (ps_ret pe_bl)) pss_nil)
      (pss_cons (ps_if (pt_cmpR op_isN (pe_call g_l_asked (hr.mono (by first | decide | omega)) rfl T.m_l_asked T.F_l_asked.kp T.b_l_asked .nil pass0 (pa_cons (pv 6) (pa_cons (pv 7) (pa_cons (pv 3) (pa_cons (pv 9) pa_nil))))) pe_non (nomark _)) (pss_one (ps_ret pe_bl)) pss_nil)
      (pss_cons (ps_for PassesOwn.never rfl (pi_range1 rfl T.z_range (pa_cons pe_int pa_nil)) (pg_name (i := 14) sc_law.nd rfl (Or.inl rfl))
        (pss_cons (ps_set (i := 15) sc_law.nd rfl (Or.inl rfl) (pe_call g_l_drawn_form (hr.mono (by first | decide | omega)) rfl T.m_l_drawn_form T.F_l_drawn_form.kp T.b_l_drawn_form .nil pass0 (pa_cons (pv 1) (pa_cons (pv 4) pa_nil))))
      (pss_one (ps_for PassesOwn.never rfl (pi_list (pe_lst (pa_cons (pv 9) (pa_cons (pv 10) (pa_cons (pv 11) pa_nil))))) (pg_name (i := 16) sc_law.nd rfl (Or.inl rfl))
        (pss_one (ps_if (pt_not (pt_val (pe_call g_l_same (hr.mono (by first | decide | omega)) rfl T.m_l_same T.F_l_same.kp T.b_l_same .nil pass0 (pa_cons (pe_call g_range_of_form (hr.mono (by first | decide | omega)) rfl T.m_range_of_form T.F_range_of_form.kp T.b_range_of_form .nil pass0 (pa_cons (pv 15) (pa_cons (pe_call g_l_box (hr.mono (by first | decide | omega)) rfl T.m_l_box T.F_l_box.kp T.b_l_box .nil pass0 (pa_cons (pv 16) pa_nil)) pa_nil))) (pa_cons (pe_call g_l_spread (hr.mono (by first | decide | omega)) rfl T.m_l_spread T.F_l_spread.kp T.b_l_spread .nil pass0 (pa_cons (pv 15) (pa_cons (pv 16) pa_nil))) pa_nil))))) (pss_one (ps_ret pe_bl)) pss_nil))))))
      (pss_one (ps_ret pe_bl)))))))))))))))))))), ?_⟩
  refine ⟨_, rfl, a, ns, 0, rfl, hS, by decide, fun c0 => ?_⟩
  refine ⟨_, rfl, a, ns, 1, rfl, hS, by decide, fun c1 => ⟨_, _, rfl, rfl, .inl ⟨by decide, by decide⟩, _, _, rfl, rfl, ?_⟩⟩
  refine ⟨_, rfl, a, ns, 2, rfl, hS, by decide, fun c2 => ⟨_, _, rfl, rfl, .inl ⟨by decide, by decide⟩, _, _, rfl, rfl, ?_⟩⟩
  refine ⟨_, rfl, fun p0 H1 hp0 s1 src => ?_⟩
  refine ⟨_, rfl, p0, rfl, src, fun zs pw G1 nd lz st1 npw hw => ?_⟩
  have npw0 := lst_ne' st1.s hw
  refine ⟨_, rfl, _, rfl, _, rfl, p0, 5, rfl, st1.s, by decide, fun r1 G2 st2 r10 r11 => ⟨r1, rfl, pw, _, rfl, SqL.of (st2.k _ _ npw0 hw), fun sl hsl => ?_⟩⟩
  rw [cut_hi r10 (by rw [List.length_map, lz]; omega), ← List.map_take]
  have ssl := Same.new hsl (.lst ((zs.take r1.toNat).map V.str))
  refine ⟨p0, sl, zs.take r1.toNat, rfl, (st2.same ssl).s, upd_same, by rw [List.length_take]; omega, fun N pn G3 pmN st3 npn hN => ?_⟩
  have hw3 := st3.k _ _ npw0 (ssl _ _ (st2.k _ _ npw0 hw))
  have npn0 := lst_ne' st3.s hN
  have lN : N.length ≤ 4 := by
    have := pmN.length_eq
    rw [List.length_take] at this
    omega
  have ndN : N.Nodup := pmN.nodup_iff.mpr ((List.take_sublist _ _).nodup nd)
  have s3 := st3.s
  clear hsl ssl st2 st1 hw hS hp0 src s1 st3 npw npn
  refine ⟨_, rfl, pn, _, rfl, .inl (SqL.of hN), _, rfl, p0, 5, rfl, s3, by decide, fun r2 G4 st4 r20 r21 => ⟨_, _, rfl, rfl, ?_⟩⟩
  refine ⟨fun σ G => Stp p0 G3 G ∧ ∃ n : Nat, N.length ≤ n ∧ n ≤ 20 ∧ σ = [some (.ref a), some (.ref p0), some (.ref pw), some (.ref pn), some (.int (n : Int)), none, none, none, none, none, none, none, none, none, none, none, none], ?_, ?_⟩
  · have cst : ∀ r : Int, 0 ≤ r → (((N.map V.str).length : Nat) : Int) + r = ((N.length + r.toNat : Nat) : Int) := fun r h => by
      rw [List.length_map]
      omega
    refine ⟨_, rfl, p0, 8, rfl, st4.s, by decide, fun r3 G5 st5 _ _ => ⟨rfl, _, rfl, ite2 (fun _ => ?_) (fun _ => ?_)⟩⟩
    · refine ⟨_, rfl, pn, _, rfl, .inl (SqL.of ((st4.trans st5).k _ _ npn0 hN)), _, rfl, p0, 17, rfl, st5.s, by decide, fun r4 G6 st6 r40 r41 => ⟨_, _, rfl, rfl, ?_⟩⟩
      exact ⟨(st4.trans st5).trans st6, N.length + r4.toNat, by omega, by omega, by rw [← cst r4 r40]; rfl⟩
    · exact ⟨st4.trans st5, N.length + r2.toNat, by omega, by omega, by rw [← cst r2 r20]; rfl⟩
  rintro σ G ⟨stn, n, n1, n2, rfl⟩
  have hwG := stn.k _ _ npw0 hw3
  have hNG := stn.k _ _ npn0 hN
  refine ⟨_, rfl, 4, rfl, _, rfl, p0, 4, rfl, stn.s, by decide, fun r5 G7 st7 r50 r51 => ⟨_, _, rfl, rfl, _, rfl, pw, _, rfl, SqL.of (st7.k _ _ npw0 hwG), fun nu hnu => ?_⟩⟩
  have e5 : (4 : Int) + r5 = ((4 + r5.toNat : Nat) : Int) := by omega
  rw [show cutV (zs.map V.str) (some 4) (some (4 + r5)) = ((zs.drop 4).take r5.toNat).map V.str from by
    rw [e5, show cutV (zs.map V.str) (some 4) (some ((4 + r5.toNat : Nat) : Int)) = ((zs.map V.str).drop 4).take (4 + r5.toNat - 4) from cut_mid (i := 4) (j := 4 + r5.toNat) (by omega) (by rw [List.length_map, lz]; omega), Nat.add_sub_cancel_left, List.map_take, List.map_drop]]
  have snu := Same.new hnu (.lst (((zs.drop 4).take r5.toNat).map V.str))
  have hnu0 : (upd G7 nu (.lst (((zs.drop 4).take r5.toNat).map V.str))) nu = some (.lst (((zs.drop 4).take r5.toNat).map V.str)) := upd_same
  have lnu : ((zs.drop 4).take r5.toNat).length ≤ 3 := by
    rw [List.length_take]
    omega
  have dnu : ∀ z ∈ (zs.drop 4).take r5.toNat, z ∉ zs.drop 13 := fun z hz h13 => by
    have e : zs.drop 4 = (zs.drop 4).take r5.toNat ++ zs.drop (4 + r5.toNat) := by rw [← List.drop_drop, List.take_append_drop]
    have nd4 := (List.drop_sublist 4 zs).nodup nd
    rw [e] at nd4
    refine (List.nodup_append.mp nd4).2.2 z hz z ?_ rfl
    have e13 : zs.drop 13 = (zs.drop (4 + r5.toNat)).drop (13 - (4 + r5.toNat)) := by
      rw [List.drop_drop]
      congr 1
      omega
    rw [e13] at h13
    exact List.mem_of_mem_drop h13
  generalize (zs.drop 4).take r5.toNat = nms at snu hnu0 lnu dnu ⊢
  have hw7 := snu _ _ (st7.k _ _ npw0 hwG)
  have hN7 := snu _ _ (st7.k _ _ npn0 hNG)
  have s7 := (st7.same snu).s
  have nu0 := lst_ne' s7 hnu0
  generalize (upd G7 nu (.lst (nms.map V.str))) = GA at hw7 hN7 hnu0 s7 ⊢
  clear hnu snu st7 hwG hNG stn st4 r20 r21 hw3 hN s3
  -- the expression
  refine ⟨_, rfl, _, rfl, _, rfl, pn, nu, _, _, rfl, rfl, hN7, hnu0, by rw [List.length_map, List.length_map]; exact Nat.le_of_lt (small1000 (by omega)), fun pl hpl => ?_⟩
  have spl := Same.new hpl (.lst (N.map V.str ++ nms.map V.str))
  have epl : (upd GA pl (.lst (N.map V.str ++ nms.map V.str))) pl = some (.lst ((N ++ nms).map V.str)) := by
    rw [List.map_append]
    exact upd_same
  have npl := lst_ne' (Stp.of_same s7 spl).s epl
  refine ⟨_, rfl, p0, 7, rfl, (Stp.of_same s7 spl).s, by decide, fun r6 G8 st8 r60 r61 => ?_⟩
  refine ⟨p0, pl, N ++ nms, r6.toNat, by rw [Int.toNat_of_nonneg r60]; rfl, st8.s, st8.k _ _ npl epl, by rw [List.length_append]; omega, by omega, fun ve e G9 st9 hx oe => ?_⟩
  have oe := oe.le (show r6.toNat + 1 ≤ 7 by omega)
  have stA := ((Stp.of_same s7 spl).trans st8).trans st9
  have hw9 := stA.k _ _ npw0 hw7
  have hN9 := stA.k _ _ npn0 hN7
  have hnu9 := stA.k _ _ nu0 hnu0
  have s9 := stA.s
  clear stA st9 st8 spl epl hpl r60 r61 hw7 hN7 hnu0 s7
  -- the known values
  refine ⟨_, rfl, _, rfl, _, rfl, p0, pw, nu, zs, nms, rfl, s9, hw9, hnu9, lz, lnu, dnu, fun kd GB kvs st10 nkd hkd kn => ?_⟩
  have kd0 : kd ≠ p0 := (s9.ne nkd).symm
  refine ⟨_, rfl, _, rfl, _, rfl, p0, pw, nu, zs, nms, rfl, st10.s, st10.k _ _ npw0 hw9, st10.k _ _ nu0 hnu9, lz, lnu, dnu, fun ko GC kvo st11 nko hko kno => ?_⟩
  have ko0 : ko ≠ p0 := (st10.s.ne nko).symm
  -- the points
  refine ⟨_, rfl, _, rfl, p0, n, rfl, st11.s, n2, fun pp GD Ps st12 npp tP neP lP lrP pbP => ?_⟩
  have pp0 : pp ≠ p0 := (st11.s.ne npp).symm
  refine ⟨_, rfl, _, rfl, p0, n, rfl, st12.s, n2, fun po GE Os st13 npo tO neO lO lrO pbO => ?_⟩
  have po0 : po ≠ p0 := (st12.s.ne npo).symm
  have tPE := tP.stp st13 st12.s pp0
  obtain ⟨as, hpp, ha⟩ := id tPE
  have las : as.length = Ps.length := ha.1
  have pos : 0 < Ps.length := List.length_pos_iff.mpr neP
  refine ⟨_, rfl, _, rfl, _, rfl, pp, _, rfl, .inl (SqL.of hpp), p0, _, rfl, st13.s, by rw [List.length_map]; omega, fun r7 GF st14 r70 r71 => ⟨_, _, rfl, rfl, _, rfl, pp, _, rfl, SqL.of (st14.k _ _ pp0 hpp), fun pq hpq => ?_⟩⟩
  rw [List.length_map] at r71
  have e7 : (1 : Int) + r7 = ((1 + r7.toNat : Nat) : Int) := by omega
  rw [show cutV (as.map V.ref) none (some (1 + r7)) = (as.take (1 + r7.toNat)).map V.ref from by
    rw [cut_hi (by omega) (by rw [List.length_map]; omega), List.map_take, show (1 + r7).toNat = 1 + r7.toNat by omega]]
  have spq := Same.new hpq (.lst ((as.take (1 + r7.toNat)).map V.ref))
  have taF := ((ha.stp st14 st13.s)).same spq
  have tQ : TPts (upd GF pq (.lst ((as.take (1 + r7.toNat)).map V.ref))) pq (Ps.take (1 + r7.toNat)) := by
    refine ⟨_, upd_same, by rw [List.length_take, List.length_take, las], fun i b r e1 e2 => ?_⟩
    rw [List.getElem?_take] at e1 e2
    split at e1
    · rename_i h
      rw [if_pos h] at e2
      exact taF.2 i b r e1 e2
    · cases e1
  have subQ : ∀ r ∈ Ps.take (1 + r7.toNat), r ∈ Ps := fun r hr => List.mem_of_mem_take hr
  have neQ : Ps.take (1 + r7.toNat) ≠ [] := fun z => by
    have h : min (1 + r7.toNat) Ps.length = 0 := by
      rw [← List.length_take, z]
      rfl
    omega
  have lQ : (Ps.take (1 + r7.toNat)).length ≤ 30 := Nat.le_trans (List.length_take_le' _ _) lP
  have stL := st14.same spq
  have st39 := ((st11.trans st12).trans st13).trans stL
  have sZ := stL.s
  have hxZ : EfAt K (upd GF pq (.lst ((as.take (1 + r7.toNat)).map V.ref))) e ve := hx.keep fun _ _ h => (st10.trans st39).rd h s9
  have hNZ := (st10.trans st39).k _ _ npn0 hN9
  have hkdZ := st39.k _ _ kd0 hkd
  have hkoZ := ((st12.trans st13).trans stL).k _ _ ko0 hko
  have tPZ := tPE.stp stL st13.s pp0
  have tOZ := tO.stp stL st13.s po0
  have pq0 : pq ≠ p0 := (st14.s.ne hpq).symm
  generalize (upd GF pq (.lst ((as.take (1 + r7.toNat)).map V.ref))) = GZ at tQ sZ hxZ hNZ hkdZ hkoZ tPZ tOZ ⊢
  generalize Ps.take (1 + r7.toNat) = Qs at tQ subQ neQ lQ ⊢
  clear st39 stL spq taF st14 hpq e7 r71 r70 hpp ha tPE tP tO st13 st12 st11 st10 hN9 hw9 hnu9 s9 hx nkd nko npp npo hkd hko las
  have kS : ∀ {kv : List (Key × V)}, Kn nms 6 kv → ∀ z ∈ N ++ nms, z ∉ N → valV kv (Sum.inr z) = some (.int (kOf kv z)) := fun {kv} h z hz hn => h.k ((List.mem_append.mp hz).resolve_left hn)
  have eP : Env23 GZ kd pn pp kvs N (N ++ nms) (kOf kvs) n Ps := ⟨hkdZ, kS kn, kOf_b kvs, hNZ, n1, tPZ, neP, by omega, lrP, pbP, n2⟩
  have eO : Env23 GZ ko pn po kvo N (N ++ nms) (kOf kvo) n Os := ⟨hkoZ, kS kno, kOf_b kvo, hNZ, n1, tOZ, neO, by omega, lrO, pbO, n2⟩
  have eQ : Env23 GZ kd pn pq kvs N (N ++ nms) (kOf kvs) n Qs := ⟨hkdZ, kS kn, kOf_b kvs, hNZ, n1, tQ, neQ, by omega, fun r hr => lrP r (subQ r hr), fun r hr => pbP r (subQ r hr), n2⟩
  have l10 : ∀ {kv : List (Key × V)}, Kn nms 6 kv → kv.length ≤ 10 := fun {kv} h => by have := h.len; omega
  refine ⟨_, rfl, _, rfl, _, rfl, _, rfl, ve, kd, pn, pp, e, kvs, N, N ++ nms, kOf kvs, n, Ps, rfl, eP, hxZ, oe, ndN, l10 kn, kn.f, lP, fun f1 F1 x1 hf1 => ?_⟩
  have nn : ∀ b : Addr, decide (V.ref b = V.non) = false := fun b => decide_eq_false fun z => nomatch z
  refine ⟨_, rfl, rfl, _, rfl, ifF (nn _) ?_⟩
  refine ⟨_, rfl, _, rfl, _, rfl, _, rfl, ve, ko, pn, po, e, kvo, N, N ++ nms, kOf kvo, n, Os, rfl, eO.same x1, hxZ.same x1, oe, ndN, l10 kno, kno.f, lO, fun f2 F2 x2 _ => ⟨rfl, _, rfl, ifF (nn _) ?_⟩⟩
  have x12 := x1.trans x2
  refine ⟨_, rfl, _, rfl, _, rfl, _, rfl, ve, kd, pn, pq, e, kvs, N, N ++ nms, kOf kvs, n, Qs, rfl, eQ.same x12, hxZ.same x12, oe, ndN, l10 kn, kn.f, lQ, fun f3 F3 x3 hf3 => ?_⟩
  have x13 := x12.trans x3
  obtain ⟨q0, hq0⟩ := List.exists_mem_of_ne_nil _ neQ
  obtain ⟨m1, m2, m3⟩ := fm_mono (n := n) (N := N) (κ := kOf kvs) hq0 subQ e
  obtain ⟨k1, h1, g1⟩ := (hf1.same x2).same x3
  obtain ⟨k3, h3, g3⟩ := hf3
  rw [m1] at g3
  refine ⟨_, rfl, rfl, _, rfl, ifF (nn _) ?_⟩
  refine ⟨_, rfl, f3, _, _, _, rfl, rfl, h3, rfl, _, rfl, f1, _, _, _, rfl, rfl, h1, rfl, neT g3 g1 ⟨_, rfl, ifF rfl ?_⟩⟩
  refine ⟨_, rfl, f3, _, _, _, rfl, rfl, h3, rfl, _, rfl, f1, _, _, _, rfl, rfl, h1, rfl, _, _, rfl, rfl, _, rfl, ifF (decide_eq_false (by omega)) ?_⟩
  refine ⟨_, rfl, f3, _, _, _, rfl, rfl, h3, rfl, _, rfl, f1, _, _, _, rfl, rfl, h1, rfl, _, _, rfl, rfl, _, rfl, ifF (decide_eq_false (by omega)) ?_⟩
  refine ⟨_, rfl, _, rfl, _, rfl, _, rfl, ve, kd, pn, pp, e, kvs, N, N ++ nms, kOf kvs, n, Ps, rfl, eP.same x13, hxZ.same x13, oe, ndN, l10 kn, kn.f, lP, fun f4 F4 x4 _ => ⟨rfl, _, rfl, ifF (nn _) ?_⟩⟩
  have x14 := x13.trans x4
  have st0 : Stp p0 GZ F4 := Stp.of_same sZ x14
  have srcs : ∀ y, y ∈ [V.ref pp, .ref po, .ref pq] → ∃ (px : Addr) (Xs : List (List Int)), y = .ref px ∧ TPts GZ px Xs ∧ px ≠ p0 ∧ Xs ≠ [] ∧ Xs.length ≤ 30 ∧ (∀ r ∈ Xs, r.length = n) ∧ PtB Xs := fun y hy => by
    simp only [List.mem_cons, List.not_mem_nil, or_false] at hy
    rcases hy with rfl | rfl | rfl
    · exact ⟨pp, Ps, rfl, tPZ, pp0, neP, lP, lrP, pbP⟩
    · exact ⟨po, Os, rfl, tOZ, po0, neO, lO, lrO, pbO⟩
    · exact ⟨pq, Qs, rfl, tQ, pq0, neQ, lQ, eQ.lr, eQ.pb⟩
  clear h1 g1 h3 g3 m1 m2 m3 hf1 eP eO eQ x14 x13 x12 x4 x3 x2 x1
  refine ⟨3, rfl, by decide, by decide, for_range (lo := 0) (n := 3) (fun _ σ G => Stp p0 GZ G ∧ ∃ v14 v15 v16 : Option V, σ = [some (.ref a), some (.ref p0), some (.ref pw), some (.ref pn), some (.int (n : Int)), some (.ref nu), some ve, some (.ref kd), some (.ref ko), some (.ref pp), some (.ref po), some (.ref pq), some (.ref f1), some (.ref f3), v14, v15, v16]) ⟨st0, none, none, none, rfl⟩ ?_ ?_⟩
  · rintro i σ G hi ⟨sG, v14, v15, v16, rfl⟩
    refine ⟨_, rfl, _, rfl, p0, n, rfl, sG.s, n2, fun ff G2 cs lo hi st2 hF lcs cf le => ?_⟩
    refine ⟨_, rfl, _, rfl, _, rfl, by show 3 ≤ sizeLine; decide, fun l3 hl3 => ?_⟩
    have sl3 := Same.new hl3 (.lst [.ref pp, .ref po, .ref pq])
    have hL3 : (upd G2 l3 (.lst [.ref pp, .ref po, .ref pq])) l3 = some (.lst [.ref pp, .ref po, .ref pq]) := upd_same
    have sG3 := (sG.trans st2).same sl3
    have hF3 := hF.same sl3
    generalize (upd G2 l3 (.lst [.ref pp, .ref po, .ref pq])) = G3 at sG3 hF3 hL3 ⊢
    refine ⟨l3, rfl, ⟨_, SqL.of hL3⟩, for_list (K := K) (a := l3) (xs := [.ref pp, .ref po, .ref pq]) (fun _ σ F => Same G3 F ∧ ∃ v16 : Option V, σ = [some (.ref a), some (.ref p0), some (.ref pw), some (.ref pn), some (.int (n : Int)), some (.ref nu), some ve, some (.ref kd), some (.ref ko), some (.ref pp), some (.ref po), some (.ref pq), some (.ref f1), some (.ref f3), some (.int (0 + (i : Int))), some (.ref ff), v16])
      ⟨Same.refl _, _, rfl⟩ (fun _ σ F _ ⟨s, _⟩ => SqL.of (s _ _ hL3)) ?_ ?_⟩
    · rintro j y σ F ey ⟨sF, w16, rfl⟩
      obtain ⟨px, Xs, rfl, tX, px0, neX, lX, lrX, pbX⟩ := srcs y (List.mem_of_getElem? ey)
      have tF := (tX.stp sG3 sZ px0).same sF
      have eb := entB_hull (n := n) neX pbX
      have sM := hullM_sz n Xs
      refine ⟨_, rfl, _, rfl, px, n, Xs, rfl, by omega, tF.mx, lrX, by omega, fun vb H1 s1 hb => ?_⟩
      rw [hull_some neX] at hb
      obtain ⟨pb, rfl, mB⟩ := hb
      refine ⟨ff, pb, hullM n Xs, cs, lo, hi, rfl, (hF3.same sF).same s1, eb, by omega, mB, by rw [lcs]; exact sM, fun t1 H2 L1 Z1 s2 ht1 r1 => ?_⟩
      have r1' : RngF (hullM cs.length Xs) cs lo hi L1 Z1 := by rw [lcs]; exact r1
      obtain ⟨rfl, rfl⟩ := rng_is neX r1'
      have sF2 := s1.trans s2
      refine ⟨_, rfl, _, rfl, ff, px, cs, lo, hi, Xs, rfl, (hF3.same sF).same sF2, pbX, by omega, tF.same sF2, neX, by omega, fun r hr => by rw [lcs]; exact lrX r hr, fun t2 H3 L2 Z2 s3 ht2 d1 d2 => ?_⟩
      obtain ⟨rfl, rfl⟩ := spr_is d1 d2
      refine ⟨.ref t1, .ref t2, .tuple [.int (lowF cs lo Xs), .int (highF cs hi Xs)], rfl, .tup (SqT.of (s3 _ _ ht1)) (.cons (.int _) (.cons (.int _) .nil)), .tup (SqT.of ht2) (.cons (.int _) (.cons (.int _) .nil)), ⟨by show 2 ≤ 100000; decide, fun d hd => ?_⟩, ⟨_, rfl, ifF rfl ⟨(sF.trans sF2).trans s3, _, rfl⟩⟩⟩
      simp only [List.mem_cons, List.not_mem_nil, or_false] at hd
      rcases hd with rfl | rfl <;> trivial
    · rintro σ F ⟨sF, w16, rfl⟩
      exact ⟨sG3.same sF, _, _, _, rfl⟩
  · rintro σ G ⟨sG, v14, v15, v16, rfl⟩
    exact q G
end
theorem all_mk {l : PySem.W.OpenLaw} {w : World} {K : PySem.W.Frag} {h : Heap} {mg : Str → Option Value} {fa : Addr} (X : K.In h) (G : h.Ns mainGlobals mg) (hfa : mg "law" = some (.ref fa))
    {f_range_of : Addr} {od_range_of an_range_of : Option Addr} {sl_range_of : Array (Option Value)} {oc_range_of kV_range_of dc_range_of pm_range_of cd_range_of ct_range_of : Value}
    (A_range_of : PySem.W.nsIn K mainGlobals "range_of" = some (some (.ref f_range_of))) (L_range_of : K.lookup f_range_of = some ⟨oc_range_of, od_range_of, .func (PySem.W.fnOf "range_of" "range_of" (defArgs s_range_of) (defBody s_range_of) (defScope s_range_of) .none kV_range_of dc_range_of pm_range_of an_range_of cd_range_of ct_range_of), sl_range_of⟩) (C_range_of : PySem.W.codeIn K cd_range_of "range_of" = true) (K_range_of : PySem.W.keepIn K (.ref f_range_of) = true)
    {f_constant_form : Addr} {od_constant_form an_constant_form : Option Addr} {sl_constant_form : Array (Option Value)} {oc_constant_form kV_constant_form dc_constant_form pm_constant_form cd_constant_form ct_constant_form : Value}
    (A_constant_form : PySem.W.nsIn K mainGlobals "constant_form" = some (some (.ref f_constant_form))) (L_constant_form : K.lookup f_constant_form = some ⟨oc_constant_form, od_constant_form, .func (PySem.W.fnOf "constant_form" "constant_form" (defArgs s_constant_form) (defBody s_constant_form) (defScope s_constant_form) .none kV_constant_form dc_constant_form pm_constant_form an_constant_form cd_constant_form ct_constant_form), sl_constant_form⟩) (C_constant_form : PySem.W.codeIn K cd_constant_form "constant_form" = true) (K_constant_form : PySem.W.keepIn K (.ref f_constant_form) = true)
    {f_column_form : Addr} {od_column_form an_column_form : Option Addr} {sl_column_form : Array (Option Value)} {oc_column_form kV_column_form dc_column_form pm_column_form cd_column_form ct_column_form : Value}
    (A_column_form : PySem.W.nsIn K mainGlobals "column_form" = some (some (.ref f_column_form))) (L_column_form : K.lookup f_column_form = some ⟨oc_column_form, od_column_form, .func (PySem.W.fnOf "column_form" "column_form" (defArgs s_column_form) (defBody s_column_form) (defScope s_column_form) .none kV_column_form dc_column_form pm_column_form an_column_form cd_column_form ct_column_form), sl_column_form⟩) (C_column_form : PySem.W.codeIn K cd_column_form "column_form" = true) (K_column_form : PySem.W.keepIn K (.ref f_column_form) = true)
    {f_sum_of_forms : Addr} {od_sum_of_forms an_sum_of_forms : Option Addr} {sl_sum_of_forms : Array (Option Value)} {oc_sum_of_forms kV_sum_of_forms dc_sum_of_forms pm_sum_of_forms cd_sum_of_forms ct_sum_of_forms : Value}
    (A_sum_of_forms : PySem.W.nsIn K mainGlobals "sum_of_forms" = some (some (.ref f_sum_of_forms))) (L_sum_of_forms : K.lookup f_sum_of_forms = some ⟨oc_sum_of_forms, od_sum_of_forms, .func (PySem.W.fnOf "sum_of_forms" "sum_of_forms" (defArgs s_sum_of_forms) (defBody s_sum_of_forms) (defScope s_sum_of_forms) .none kV_sum_of_forms dc_sum_of_forms pm_sum_of_forms an_sum_of_forms cd_sum_of_forms ct_sum_of_forms), sl_sum_of_forms⟩) (C_sum_of_forms : PySem.W.codeIn K cd_sum_of_forms "sum_of_forms" = true) (K_sum_of_forms : PySem.W.keepIn K (.ref f_sum_of_forms) = true)
    {f_form_times : Addr} {od_form_times an_form_times : Option Addr} {sl_form_times : Array (Option Value)} {oc_form_times kV_form_times dc_form_times pm_form_times cd_form_times ct_form_times : Value}
    (A_form_times : PySem.W.nsIn K mainGlobals "form_times" = some (some (.ref f_form_times))) (L_form_times : K.lookup f_form_times = some ⟨oc_form_times, od_form_times, .func (PySem.W.fnOf "form_times" "form_times" (defArgs s_form_times) (defBody s_form_times) (defScope s_form_times) .none kV_form_times dc_form_times pm_form_times an_form_times cd_form_times ct_form_times), sl_form_times⟩) (C_form_times : PySem.W.codeIn K cd_form_times "form_times" = true) (K_form_times : PySem.W.keepIn K (.ref f_form_times) = true)
    {f_difference_of_forms : Addr} {od_difference_of_forms an_difference_of_forms : Option Addr} {sl_difference_of_forms : Array (Option Value)} {oc_difference_of_forms kV_difference_of_forms dc_difference_of_forms pm_difference_of_forms cd_difference_of_forms ct_difference_of_forms : Value}
    (A_difference_of_forms : PySem.W.nsIn K mainGlobals "difference_of_forms" = some (some (.ref f_difference_of_forms))) (L_difference_of_forms : K.lookup f_difference_of_forms = some ⟨oc_difference_of_forms, od_difference_of_forms, .func (PySem.W.fnOf "difference_of_forms" "difference_of_forms" (defArgs s_difference_of_forms) (defBody s_difference_of_forms) (defScope s_difference_of_forms) .none kV_difference_of_forms dc_difference_of_forms pm_difference_of_forms an_difference_of_forms cd_difference_of_forms ct_difference_of_forms), sl_difference_of_forms⟩) (C_difference_of_forms : PySem.W.codeIn K cd_difference_of_forms "difference_of_forms" = true) (K_difference_of_forms : PySem.W.keepIn K (.ref f_difference_of_forms) = true)
    {f_used_columns : Addr} {od_used_columns an_used_columns : Option Addr} {sl_used_columns : Array (Option Value)} {oc_used_columns kV_used_columns dc_used_columns pm_used_columns cd_used_columns ct_used_columns : Value}
    (A_used_columns : PySem.W.nsIn K mainGlobals "used_columns" = some (some (.ref f_used_columns))) (L_used_columns : K.lookup f_used_columns = some ⟨oc_used_columns, od_used_columns, .func (PySem.W.fnOf "used_columns" "used_columns" (defArgs s_used_columns) (defBody s_used_columns) (defScope s_used_columns) .none kV_used_columns dc_used_columns pm_used_columns an_used_columns cd_used_columns ct_used_columns), sl_used_columns⟩) (C_used_columns : PySem.W.codeIn K cd_used_columns "used_columns" = true) (K_used_columns : PySem.W.keepIn K (.ref f_used_columns) = true)
    {f_difference_columns : Addr} {od_difference_columns an_difference_columns : Option Addr} {sl_difference_columns : Array (Option Value)} {oc_difference_columns kV_difference_columns dc_difference_columns pm_difference_columns cd_difference_columns ct_difference_columns : Value}
    (A_difference_columns : PySem.W.nsIn K mainGlobals "difference_columns" = some (some (.ref f_difference_columns))) (L_difference_columns : K.lookup f_difference_columns = some ⟨oc_difference_columns, od_difference_columns, .func (PySem.W.fnOf "difference_columns" "difference_columns" (defArgs s_difference_columns) (defBody s_difference_columns) (defScope s_difference_columns) .none kV_difference_columns dc_difference_columns pm_difference_columns an_difference_columns cd_difference_columns ct_difference_columns), sl_difference_columns⟩) (C_difference_columns : PySem.W.codeIn K cd_difference_columns "difference_columns" = true) (K_difference_columns : PySem.W.keepIn K (.ref f_difference_columns) = true)
    {f_range_of_form : Addr} {od_range_of_form an_range_of_form : Option Addr} {sl_range_of_form : Array (Option Value)} {oc_range_of_form kV_range_of_form dc_range_of_form pm_range_of_form cd_range_of_form ct_range_of_form : Value}
    (A_range_of_form : PySem.W.nsIn K mainGlobals "range_of_form" = some (some (.ref f_range_of_form))) (L_range_of_form : K.lookup f_range_of_form = some ⟨oc_range_of_form, od_range_of_form, .func (PySem.W.fnOf "range_of_form" "range_of_form" (defArgs s_range_of_form) (defBody s_range_of_form) (defScope s_range_of_form) .none kV_range_of_form dc_range_of_form pm_range_of_form an_range_of_form cd_range_of_form ct_range_of_form), sl_range_of_form⟩) (C_range_of_form : PySem.W.codeIn K cd_range_of_form "range_of_form" = true) (K_range_of_form : PySem.W.keepIn K (.ref f_range_of_form) = true)
    {f_occurs : Addr} {od_occurs an_occurs : Option Addr} {sl_occurs : Array (Option Value)} {oc_occurs kV_occurs dc_occurs pm_occurs cd_occurs ct_occurs : Value}
    (A_occurs : PySem.W.nsIn K mainGlobals "occurs" = some (some (.ref f_occurs))) (L_occurs : K.lookup f_occurs = some ⟨oc_occurs, od_occurs, .func (PySem.W.fnOf "occurs" "occurs" (defArgs s_occurs) (defBody s_occurs) (defScope s_occurs) .none kV_occurs dc_occurs pm_occurs an_occurs cd_occurs ct_occurs), sl_occurs⟩) (C_occurs : PySem.W.codeIn K cd_occurs "occurs" = true) (K_occurs : PySem.W.keepIn K (.ref f_occurs) = true)
    {f_form_of : Addr} {od_form_of an_form_of : Option Addr} {sl_form_of : Array (Option Value)} {oc_form_of kV_form_of dc_form_of pm_form_of cd_form_of ct_form_of : Value}
    (A_form_of : PySem.W.nsIn K mainGlobals "form_of" = some (some (.ref f_form_of))) (L_form_of : K.lookup f_form_of = some ⟨oc_form_of, od_form_of, .func (PySem.W.fnOf "form_of" "form_of" (defArgs s_form_of) (defBody s_form_of) (defScope s_form_of) .none kV_form_of dc_form_of pm_form_of an_form_of cd_form_of ct_form_of), sl_form_of⟩) (C_form_of : PySem.W.codeIn K cd_form_of "form_of" = true) (K_form_of : PySem.W.keepIn K (.ref f_form_of) = true)
    {f_product_form : Addr} {od_product_form an_product_form : Option Addr} {sl_product_form : Array (Option Value)} {oc_product_form kV_product_form dc_product_form pm_product_form cd_product_form ct_product_form : Value}
    (A_product_form : PySem.W.nsIn K mainGlobals "product_form" = some (some (.ref f_product_form))) (L_product_form : K.lookup f_product_form = some ⟨oc_product_form, od_product_form, .func (PySem.W.fnOf "product_form" "product_form" (defArgs s_product_form) (defBody s_product_form) (defScope s_product_form) .none kV_product_form dc_product_form pm_product_form an_product_form cd_product_form ct_product_form), sl_product_form⟩) (C_product_form : PySem.W.codeIn K cd_product_form "product_form" = true) (K_product_form : PySem.W.keepIn K (.ref f_product_form) = true)
    {f_l_cell : Addr} {od_l_cell an_l_cell : Option Addr} {sl_l_cell : Array (Option Value)} {oc_l_cell kV_l_cell dc_l_cell pm_l_cell cd_l_cell ct_l_cell : Value}
    (A_l_cell : PySem.W.nsIn K mainGlobals "_law_cell" = some (some (.ref f_l_cell))) (L_l_cell : K.lookup f_l_cell = some ⟨oc_l_cell, od_l_cell, .func (PySem.W.fnOf "_law_cell" "_law_cell" (defArgs s_l_cell) (defBody s_l_cell) (defScope s_l_cell) .none kV_l_cell dc_l_cell pm_l_cell an_l_cell cd_l_cell ct_l_cell), sl_l_cell⟩) (C_l_cell : PySem.W.codeIn K cd_l_cell "_law_cell" = true) (K_l_cell : PySem.W.keepIn K (.ref f_l_cell) = true)
    {f_l_source : Addr} {od_l_source an_l_source : Option Addr} {sl_l_source : Array (Option Value)} {oc_l_source kV_l_source dc_l_source pm_l_source cd_l_source ct_l_source : Value}
    (A_l_source : PySem.W.nsIn K mainGlobals "_law_source" = some (some (.ref f_l_source))) (L_l_source : K.lookup f_l_source = some ⟨oc_l_source, od_l_source, .func (PySem.W.fnOf "_law_source" "_law_source" (defArgs s_l_source) (defBody s_l_source) (defScope s_l_source) .none kV_l_source dc_l_source pm_l_source an_l_source cd_l_source ct_l_source), sl_l_source⟩) (C_l_source : PySem.W.codeIn K cd_l_source "_law_source" = true) (K_l_source : PySem.W.keepIn K (.ref f_l_source) = true)
    {f_l_pick : Addr} {od_l_pick an_l_pick : Option Addr} {sl_l_pick : Array (Option Value)} {oc_l_pick kV_l_pick dc_l_pick pm_l_pick cd_l_pick ct_l_pick : Value}
    (A_l_pick : PySem.W.nsIn K mainGlobals "_law_pick" = some (some (.ref f_l_pick))) (L_l_pick : K.lookup f_l_pick = some ⟨oc_l_pick, od_l_pick, .func (PySem.W.fnOf "_law_pick" "_law_pick" (defArgs s_l_pick) (defBody s_l_pick) (defScope s_l_pick) .none kV_l_pick dc_l_pick pm_l_pick an_l_pick cd_l_pick ct_l_pick), sl_l_pick⟩) (C_l_pick : PySem.W.codeIn K cd_l_pick "_law_pick" = true) (K_l_pick : PySem.W.keepIn K (.ref f_l_pick) = true)
    {f_l_one : Addr} {od_l_one an_l_one : Option Addr} {sl_l_one : Array (Option Value)} {oc_l_one kV_l_one dc_l_one pm_l_one cd_l_one ct_l_one : Value}
    (A_l_one : PySem.W.nsIn K mainGlobals "_law_one" = some (some (.ref f_l_one))) (L_l_one : K.lookup f_l_one = some ⟨oc_l_one, od_l_one, .func (PySem.W.fnOf "_law_one" "_law_one" (defArgs s_l_one) (defBody s_l_one) (defScope s_l_one) .none kV_l_one dc_l_one pm_l_one an_l_one cd_l_one ct_l_one), sl_l_one⟩) (C_l_one : PySem.W.codeIn K cd_l_one "_law_one" = true) (K_l_one : PySem.W.keepIn K (.ref f_l_one) = true)
    {f_l_names : Addr} {od_l_names an_l_names : Option Addr} {sl_l_names : Array (Option Value)} {oc_l_names kV_l_names dc_l_names pm_l_names cd_l_names ct_l_names : Value}
    (A_l_names : PySem.W.nsIn K mainGlobals "_law_names" = some (some (.ref f_l_names))) (L_l_names : K.lookup f_l_names = some ⟨oc_l_names, od_l_names, .func (PySem.W.fnOf "_law_names" "_law_names" (defArgs s_l_names) (defBody s_l_names) (defScope s_l_names) .none kV_l_names dc_l_names pm_l_names an_l_names cd_l_names ct_l_names), sl_l_names⟩) (C_l_names : PySem.W.codeIn K cd_l_names "_law_names" = true) (K_l_names : PySem.W.keepIn K (.ref f_l_names) = true)
    {f_l_far : Addr} {od_l_far an_l_far : Option Addr} {sl_l_far : Array (Option Value)} {oc_l_far kV_l_far dc_l_far pm_l_far cd_l_far ct_l_far : Value}
    (A_l_far : PySem.W.nsIn K mainGlobals "_law_far" = some (some (.ref f_l_far))) (L_l_far : K.lookup f_l_far = some ⟨oc_l_far, od_l_far, .func (PySem.W.fnOf "_law_far" "_law_far" (defArgs s_l_far) (defBody s_l_far) (defScope s_l_far) .none kV_l_far dc_l_far pm_l_far an_l_far cd_l_far ct_l_far), sl_l_far⟩) (C_l_far : PySem.W.codeIn K cd_l_far "_law_far" = true) (K_l_far : PySem.W.keepIn K (.ref f_l_far) = true)
    {f_l_words : Addr} {od_l_words an_l_words : Option Addr} {sl_l_words : Array (Option Value)} {oc_l_words kV_l_words dc_l_words pm_l_words cd_l_words ct_l_words : Value}
    (A_l_words : PySem.W.nsIn K mainGlobals "_law_words" = some (some (.ref f_l_words))) (L_l_words : K.lookup f_l_words = some ⟨oc_l_words, od_l_words, .func (PySem.W.fnOf "_law_words" "_law_words" (defArgs s_l_words) (defBody s_l_words) (defScope s_l_words) .none kV_l_words dc_l_words pm_l_words an_l_words cd_l_words ct_l_words), sl_l_words⟩) (C_l_words : PySem.W.codeIn K cd_l_words "_law_words" = true) (K_l_words : PySem.W.keepIn K (.ref f_l_words) = true)
    {f_l_order : Addr} {od_l_order an_l_order : Option Addr} {sl_l_order : Array (Option Value)} {oc_l_order kV_l_order dc_l_order pm_l_order cd_l_order ct_l_order : Value}
    (A_l_order : PySem.W.nsIn K mainGlobals "_law_order" = some (some (.ref f_l_order))) (L_l_order : K.lookup f_l_order = some ⟨oc_l_order, od_l_order, .func (PySem.W.fnOf "_law_order" "_law_order" (defArgs s_l_order) (defBody s_l_order) (defScope s_l_order) .none kV_l_order dc_l_order pm_l_order an_l_order cd_l_order ct_l_order), sl_l_order⟩) (C_l_order : PySem.W.codeIn K cd_l_order "_law_order" = true) (K_l_order : PySem.W.keepIn K (.ref f_l_order) = true)
    {f_l_number : Addr} {od_l_number an_l_number : Option Addr} {sl_l_number : Array (Option Value)} {oc_l_number kV_l_number dc_l_number pm_l_number cd_l_number ct_l_number : Value}
    (A_l_number : PySem.W.nsIn K mainGlobals "_law_number" = some (some (.ref f_l_number))) (L_l_number : K.lookup f_l_number = some ⟨oc_l_number, od_l_number, .func (PySem.W.fnOf "_law_number" "_law_number" (defArgs s_l_number) (defBody s_l_number) (defScope s_l_number) .none kV_l_number dc_l_number pm_l_number an_l_number cd_l_number ct_l_number), sl_l_number⟩) (C_l_number : PySem.W.codeIn K cd_l_number "_law_number" = true) (K_l_number : PySem.W.keepIn K (.ref f_l_number) = true)
    {f_l_known : Addr} {od_l_known an_l_known : Option Addr} {sl_l_known : Array (Option Value)} {oc_l_known kV_l_known dc_l_known pm_l_known cd_l_known ct_l_known : Value}
    (A_l_known : PySem.W.nsIn K mainGlobals "_law_known" = some (some (.ref f_l_known))) (L_l_known : K.lookup f_l_known = some ⟨oc_l_known, od_l_known, .func (PySem.W.fnOf "_law_known" "_law_known" (defArgs s_l_known) (defBody s_l_known) (defScope s_l_known) .none kV_l_known dc_l_known pm_l_known an_l_known cd_l_known ct_l_known), sl_l_known⟩) (C_l_known : PySem.W.codeIn K cd_l_known "_law_known" = true) (K_l_known : PySem.W.keepIn K (.ref f_l_known) = true)
    {f_l_cloud : Addr} {od_l_cloud an_l_cloud : Option Addr} {sl_l_cloud : Array (Option Value)} {oc_l_cloud kV_l_cloud dc_l_cloud pm_l_cloud cd_l_cloud ct_l_cloud : Value}
    (A_l_cloud : PySem.W.nsIn K mainGlobals "_law_cloud" = some (some (.ref f_l_cloud))) (L_l_cloud : K.lookup f_l_cloud = some ⟨oc_l_cloud, od_l_cloud, .func (PySem.W.fnOf "_law_cloud" "_law_cloud" (defArgs s_l_cloud) (defBody s_l_cloud) (defScope s_l_cloud) .none kV_l_cloud dc_l_cloud pm_l_cloud an_l_cloud cd_l_cloud ct_l_cloud), sl_l_cloud⟩) (C_l_cloud : PySem.W.codeIn K cd_l_cloud "_law_cloud" = true) (K_l_cloud : PySem.W.keepIn K (.ref f_l_cloud) = true)
    {f_l_drawn_form : Addr} {od_l_drawn_form an_l_drawn_form : Option Addr} {sl_l_drawn_form : Array (Option Value)} {oc_l_drawn_form kV_l_drawn_form dc_l_drawn_form pm_l_drawn_form cd_l_drawn_form ct_l_drawn_form : Value}
    (A_l_drawn_form : PySem.W.nsIn K mainGlobals "_law_drawn_form" = some (some (.ref f_l_drawn_form))) (L_l_drawn_form : K.lookup f_l_drawn_form = some ⟨oc_l_drawn_form, od_l_drawn_form, .func (PySem.W.fnOf "_law_drawn_form" "_law_drawn_form" (defArgs s_l_drawn_form) (defBody s_l_drawn_form) (defScope s_l_drawn_form) .none kV_l_drawn_form dc_l_drawn_form pm_l_drawn_form an_l_drawn_form cd_l_drawn_form ct_l_drawn_form), sl_l_drawn_form⟩) (C_l_drawn_form : PySem.W.codeIn K cd_l_drawn_form "_law_drawn_form" = true) (K_l_drawn_form : PySem.W.keepIn K (.ref f_l_drawn_form) = true)
    {f_l_box : Addr} {od_l_box an_l_box : Option Addr} {sl_l_box : Array (Option Value)} {oc_l_box kV_l_box dc_l_box pm_l_box cd_l_box ct_l_box : Value}
    (A_l_box : PySem.W.nsIn K mainGlobals "_law_box" = some (some (.ref f_l_box))) (L_l_box : K.lookup f_l_box = some ⟨oc_l_box, od_l_box, .func (PySem.W.fnOf "_law_box" "_law_box" (defArgs s_l_box) (defBody s_l_box) (defScope s_l_box) .none kV_l_box dc_l_box pm_l_box an_l_box cd_l_box ct_l_box), sl_l_box⟩) (C_l_box : PySem.W.codeIn K cd_l_box "_law_box" = true) (K_l_box : PySem.W.keepIn K (.ref f_l_box) = true)
    {f_l_value : Addr} {od_l_value an_l_value : Option Addr} {sl_l_value : Array (Option Value)} {oc_l_value kV_l_value dc_l_value pm_l_value cd_l_value ct_l_value : Value}
    (A_l_value : PySem.W.nsIn K mainGlobals "_law_value" = some (some (.ref f_l_value))) (L_l_value : K.lookup f_l_value = some ⟨oc_l_value, od_l_value, .func (PySem.W.fnOf "_law_value" "_law_value" (defArgs s_l_value) (defBody s_l_value) (defScope s_l_value) .none kV_l_value dc_l_value pm_l_value an_l_value cd_l_value ct_l_value), sl_l_value⟩) (C_l_value : PySem.W.codeIn K cd_l_value "_law_value" = true) (K_l_value : PySem.W.keepIn K (.ref f_l_value) = true)
    {f_l_has : Addr} {od_l_has an_l_has : Option Addr} {sl_l_has : Array (Option Value)} {oc_l_has kV_l_has dc_l_has pm_l_has cd_l_has ct_l_has : Value}
    (A_l_has : PySem.W.nsIn K mainGlobals "_law_has" = some (some (.ref f_l_has))) (L_l_has : K.lookup f_l_has = some ⟨oc_l_has, od_l_has, .func (PySem.W.fnOf "_law_has" "_law_has" (defArgs s_l_has) (defBody s_l_has) (defScope s_l_has) .none kV_l_has dc_l_has pm_l_has an_l_has cd_l_has ct_l_has), sl_l_has⟩) (C_l_has : PySem.W.codeIn K cd_l_has "_law_has" = true) (K_l_has : PySem.W.keepIn K (.ref f_l_has) = true)
    {f_l_spread : Addr} {od_l_spread an_l_spread : Option Addr} {sl_l_spread : Array (Option Value)} {oc_l_spread kV_l_spread dc_l_spread pm_l_spread cd_l_spread ct_l_spread : Value}
    (A_l_spread : PySem.W.nsIn K mainGlobals "_law_spread" = some (some (.ref f_l_spread))) (L_l_spread : K.lookup f_l_spread = some ⟨oc_l_spread, od_l_spread, .func (PySem.W.fnOf "_law_spread" "_law_spread" (defArgs s_l_spread) (defBody s_l_spread) (defScope s_l_spread) .none kV_l_spread dc_l_spread pm_l_spread an_l_spread cd_l_spread ct_l_spread), sl_l_spread⟩) (C_l_spread : PySem.W.codeIn K cd_l_spread "_law_spread" = true) (K_l_spread : PySem.W.keepIn K (.ref f_l_spread) = true)
    {f_l_corners : Addr} {od_l_corners an_l_corners : Option Addr} {sl_l_corners : Array (Option Value)} {oc_l_corners kV_l_corners dc_l_corners pm_l_corners cd_l_corners ct_l_corners : Value}
    (A_l_corners : PySem.W.nsIn K mainGlobals "_law_corners" = some (some (.ref f_l_corners))) (L_l_corners : K.lookup f_l_corners = some ⟨oc_l_corners, od_l_corners, .func (PySem.W.fnOf "_law_corners" "_law_corners" (defArgs s_l_corners) (defBody s_l_corners) (defScope s_l_corners) .none kV_l_corners dc_l_corners pm_l_corners an_l_corners cd_l_corners ct_l_corners), sl_l_corners⟩) (C_l_corners : PySem.W.codeIn K cd_l_corners "_law_corners" = true) (K_l_corners : PySem.W.keepIn K (.ref f_l_corners) = true)
    {f_l_form : Addr} {od_l_form an_l_form : Option Addr} {sl_l_form : Array (Option Value)} {oc_l_form kV_l_form dc_l_form pm_l_form cd_l_form ct_l_form : Value}
    (A_l_form : PySem.W.nsIn K mainGlobals "_law_form" = some (some (.ref f_l_form))) (L_l_form : K.lookup f_l_form = some ⟨oc_l_form, od_l_form, .func (PySem.W.fnOf "_law_form" "_law_form" (defArgs s_l_form) (defBody s_l_form) (defScope s_l_form) .none kV_l_form dc_l_form pm_l_form an_l_form cd_l_form ct_l_form), sl_l_form⟩) (C_l_form : PySem.W.codeIn K cd_l_form "_law_form" = true) (K_l_form : PySem.W.keepIn K (.ref f_l_form) = true)
    {f_l_add : Addr} {od_l_add an_l_add : Option Addr} {sl_l_add : Array (Option Value)} {oc_l_add kV_l_add dc_l_add pm_l_add cd_l_add ct_l_add : Value}
    (A_l_add : PySem.W.nsIn K mainGlobals "_law_add" = some (some (.ref f_l_add))) (L_l_add : K.lookup f_l_add = some ⟨oc_l_add, od_l_add, .func (PySem.W.fnOf "_law_add" "_law_add" (defArgs s_l_add) (defBody s_l_add) (defScope s_l_add) .none kV_l_add dc_l_add pm_l_add an_l_add cd_l_add ct_l_add), sl_l_add⟩) (C_l_add : PySem.W.codeIn K cd_l_add "_law_add" = true) (K_l_add : PySem.W.keepIn K (.ref f_l_add) = true)
    {f_l_values_at : Addr} {od_l_values_at an_l_values_at : Option Addr} {sl_l_values_at : Array (Option Value)} {oc_l_values_at kV_l_values_at dc_l_values_at pm_l_values_at cd_l_values_at ct_l_values_at : Value}
    (A_l_values_at : PySem.W.nsIn K mainGlobals "_law_values_at" = some (some (.ref f_l_values_at))) (L_l_values_at : K.lookup f_l_values_at = some ⟨oc_l_values_at, od_l_values_at, .func (PySem.W.fnOf "_law_values_at" "_law_values_at" (defArgs s_l_values_at) (defBody s_l_values_at) (defScope s_l_values_at) .none kV_l_values_at dc_l_values_at pm_l_values_at an_l_values_at cd_l_values_at ct_l_values_at), sl_l_values_at⟩) (C_l_values_at : PySem.W.codeIn K cd_l_values_at "_law_values_at" = true) (K_l_values_at : PySem.W.keepIn K (.ref f_l_values_at) = true)
    {f_l_same : Addr} {od_l_same an_l_same : Option Addr} {sl_l_same : Array (Option Value)} {oc_l_same kV_l_same dc_l_same pm_l_same cd_l_same ct_l_same : Value}
    (A_l_same : PySem.W.nsIn K mainGlobals "_law_same" = some (some (.ref f_l_same))) (L_l_same : K.lookup f_l_same = some ⟨oc_l_same, od_l_same, .func (PySem.W.fnOf "_law_same" "_law_same" (defArgs s_l_same) (defBody s_l_same) (defScope s_l_same) .none kV_l_same dc_l_same pm_l_same an_l_same cd_l_same ct_l_same), sl_l_same⟩) (C_l_same : PySem.W.codeIn K cd_l_same "_law_same" = true) (K_l_same : PySem.W.keepIn K (.ref f_l_same) = true)
    {f_l_kept : Addr} {od_l_kept an_l_kept : Option Addr} {sl_l_kept : Array (Option Value)} {oc_l_kept kV_l_kept dc_l_kept pm_l_kept cd_l_kept ct_l_kept : Value}
    (A_l_kept : PySem.W.nsIn K mainGlobals "_law_kept" = some (some (.ref f_l_kept))) (L_l_kept : K.lookup f_l_kept = some ⟨oc_l_kept, od_l_kept, .func (PySem.W.fnOf "_law_kept" "_law_kept" (defArgs s_l_kept) (defBody s_l_kept) (defScope s_l_kept) .none kV_l_kept dc_l_kept pm_l_kept an_l_kept cd_l_kept ct_l_kept), sl_l_kept⟩) (C_l_kept : PySem.W.codeIn K cd_l_kept "_law_kept" = true) (K_l_kept : PySem.W.keepIn K (.ref f_l_kept) = true)
    {f_l_asked : Addr} {od_l_asked an_l_asked : Option Addr} {sl_l_asked : Array (Option Value)} {oc_l_asked kV_l_asked dc_l_asked pm_l_asked cd_l_asked ct_l_asked : Value}
    (A_l_asked : PySem.W.nsIn K mainGlobals "_law_asked" = some (some (.ref f_l_asked))) (L_l_asked : K.lookup f_l_asked = some ⟨oc_l_asked, od_l_asked, .func (PySem.W.fnOf "_law_asked" "_law_asked" (defArgs s_l_asked) (defBody s_l_asked) (defScope s_l_asked) .none kV_l_asked dc_l_asked pm_l_asked an_l_asked cd_l_asked ct_l_asked), sl_l_asked⟩) (C_l_asked : PySem.W.codeIn K cd_l_asked "_law_asked" = true) (K_l_asked : PySem.W.keepIn K (.ref f_l_asked) = true)
    {f_law : Addr} {od_law an_law : Option Addr} {sl_law : Array (Option Value)} {oc_law kV_law dc_law pm_law cd_law ct_law : Value}
    (A_law : PySem.W.nsIn K mainGlobals "law" = some (some (.ref f_law))) (L_law : K.lookup f_law = some ⟨oc_law, od_law, .func (PySem.W.fnOf "law" "law" (defArgs s_law) (defBody s_law) (defScope s_law) .none kV_law dc_law pm_law an_law cd_law ct_law), sl_law⟩) (C_law : PySem.W.codeIn K cd_law "law" = true) (K_law : PySem.W.keepIn K (.ref f_law) = true)
    (Z_any : PySem.W.nsIn K mainGlobals "any" = some none)
    (Z_bool : PySem.W.nsIn K mainGlobals "bool" = some none)
    (Z_dict : PySem.W.nsIn K mainGlobals "dict" = some none)
    (Z_enumerate : PySem.W.nsIn K mainGlobals "enumerate" = some none)
    (Z_int : PySem.W.nsIn K mainGlobals "int" = some none)
    (Z_isinstance : PySem.W.nsIn K mainGlobals "isinstance" = some none)
    (Z_len : PySem.W.nsIn K mainGlobals "len" = some none)
    (Z_list : PySem.W.nsIn K mainGlobals "list" = some none)
    (Z_max : PySem.W.nsIn K mainGlobals "max" = some none)
    (Z_min : PySem.W.nsIn K mainGlobals "min" = some none)
    (Z_range : PySem.W.nsIn K mainGlobals "range" = some none)
    (Z_sorted : PySem.W.nsIn K mainGlobals "sorted" = some none)
    (Z_str : PySem.W.nsIn K mainGlobals "str" = some none)
    (Z_sum : PySem.W.nsIn K mainGlobals "sum" = some none)
    (Z_tuple : PySem.W.nsIn K mainGlobals "tuple" = some none)
    (Z_zip : PySem.W.nsIn K mainGlobals "zip" = some none) :
    ∃ fd : FuncData, (∀ (s : Shared) (v : Value), BindsTo s fd ⟨[v], []⟩ [("_law_script", v)]) ∧ ∀ base : Heap, K.In base → base.Ns mainGlobals mg → FnOk l.prog w K mg base CX0 43 fa fd ["_law_script"] (spLaw K) := by
  have e := hfa.symm.trans (PySem.W.mg_of X G A_law)
  cases e
  let T : Txt w K mg := {
    a_range_of := f_range_of, d_range_of := _, F_range_of := fun_mk (st := s_range_of) L_range_of C_range_of K_range_of, b_range_of := (fun_mk (st := s_range_of) L_range_of C_range_of K_range_of).binds (ps := p_range_of) (fun _ _ _ _ _ _ us hl => match us, hl with | [_, _], _ => rfl), m_range_of := PySem.W.mg_of X G A_range_of,
    a_constant_form := f_constant_form, d_constant_form := _, F_constant_form := fun_mk (st := s_constant_form) L_constant_form C_constant_form K_constant_form, b_constant_form := (fun_mk (st := s_constant_form) L_constant_form C_constant_form K_constant_form).binds (ps := p_constant_form) (fun _ _ _ _ _ _ us hl => match us, hl with | [_, _], _ => rfl), m_constant_form := PySem.W.mg_of X G A_constant_form,
    a_column_form := f_column_form, d_column_form := _, F_column_form := fun_mk (st := s_column_form) L_column_form C_column_form K_column_form, b_column_form := (fun_mk (st := s_column_form) L_column_form C_column_form K_column_form).binds (ps := p_column_form) (fun _ _ _ _ _ _ us hl => match us, hl with | [_, _], _ => rfl), m_column_form := PySem.W.mg_of X G A_column_form,
    a_sum_of_forms := f_sum_of_forms, d_sum_of_forms := _, F_sum_of_forms := fun_mk (st := s_sum_of_forms) L_sum_of_forms C_sum_of_forms K_sum_of_forms, b_sum_of_forms := (fun_mk (st := s_sum_of_forms) L_sum_of_forms C_sum_of_forms K_sum_of_forms).binds (ps := p_sum_of_forms) (fun _ _ _ _ _ _ us hl => match us, hl with | [_, _], _ => rfl), m_sum_of_forms := PySem.W.mg_of X G A_sum_of_forms,
    a_form_times := f_form_times, d_form_times := _, F_form_times := fun_mk (st := s_form_times) L_form_times C_form_times K_form_times, b_form_times := (fun_mk (st := s_form_times) L_form_times C_form_times K_form_times).binds (ps := p_form_times) (fun _ _ _ _ _ _ us hl => match us, hl with | [_, _], _ => rfl), m_form_times := PySem.W.mg_of X G A_form_times,
    a_difference_of_forms := f_difference_of_forms, d_difference_of_forms := _, F_difference_of_forms := fun_mk (st := s_difference_of_forms) L_difference_of_forms C_difference_of_forms K_difference_of_forms, b_difference_of_forms := (fun_mk (st := s_difference_of_forms) L_difference_of_forms C_difference_of_forms K_difference_of_forms).binds (ps := p_difference_of_forms) (fun _ _ _ _ _ _ us hl => match us, hl with | [_, _], _ => rfl), m_difference_of_forms := PySem.W.mg_of X G A_difference_of_forms,
    a_used_columns := f_used_columns, d_used_columns := _, F_used_columns := fun_mk (st := s_used_columns) L_used_columns C_used_columns K_used_columns, b_used_columns := (fun_mk (st := s_used_columns) L_used_columns C_used_columns K_used_columns).binds (ps := p_used_columns) (fun _ _ _ _ _ _ us hl => match us, hl with | [_], _ => rfl), m_used_columns := PySem.W.mg_of X G A_used_columns,
    a_difference_columns := f_difference_columns, d_difference_columns := _, F_difference_columns := fun_mk (st := s_difference_columns) L_difference_columns C_difference_columns K_difference_columns, b_difference_columns := (fun_mk (st := s_difference_columns) L_difference_columns C_difference_columns K_difference_columns).binds (ps := p_difference_columns) (fun _ _ _ _ _ _ us hl => match us, hl with | [_], _ => rfl), m_difference_columns := PySem.W.mg_of X G A_difference_columns,
    a_range_of_form := f_range_of_form, d_range_of_form := _, F_range_of_form := fun_mk (st := s_range_of_form) L_range_of_form C_range_of_form K_range_of_form, b_range_of_form := (fun_mk (st := s_range_of_form) L_range_of_form C_range_of_form K_range_of_form).binds (ps := p_range_of_form) (fun _ _ _ _ _ _ us hl => match us, hl with | [_, _], _ => rfl), m_range_of_form := PySem.W.mg_of X G A_range_of_form,
    a_occurs := f_occurs, d_occurs := _, F_occurs := fun_mk (st := s_occurs) L_occurs C_occurs K_occurs, b_occurs := (fun_mk (st := s_occurs) L_occurs C_occurs K_occurs).binds (ps := p_occurs) (fun _ _ _ _ _ _ us hl => match us, hl with | [_, _], _ => rfl), m_occurs := PySem.W.mg_of X G A_occurs,
    a_form_of := f_form_of, d_form_of := _, F_form_of := fun_mk (st := s_form_of) L_form_of C_form_of K_form_of, b_form_of := (fun_mk (st := s_form_of) L_form_of C_form_of K_form_of).binds (ps := p_form_of) (fun _ _ _ _ _ _ us hl => match us, hl with | [_, _, _, _], _ => rfl), m_form_of := PySem.W.mg_of X G A_form_of,
    a_product_form := f_product_form, d_product_form := _, F_product_form := fun_mk (st := s_product_form) L_product_form C_product_form K_product_form, b_product_form := (fun_mk (st := s_product_form) L_product_form C_product_form K_product_form).binds (ps := p_product_form) (fun _ _ _ _ _ _ us hl => match us, hl with | [_, _, _], _ => rfl), m_product_form := PySem.W.mg_of X G A_product_form,
    a_l_cell := f_l_cell, d_l_cell := _, F_l_cell := fun_mk (st := s_l_cell) L_l_cell C_l_cell K_l_cell, b_l_cell := (fun_mk (st := s_l_cell) L_l_cell C_l_cell K_l_cell).binds (ps := p_l_cell) (fun _ _ _ _ _ _ us hl => match us, hl with | [_, _], _ => rfl), m_l_cell := PySem.W.mg_of X G A_l_cell,
    a_l_source := f_l_source, d_l_source := _, F_l_source := fun_mk (st := s_l_source) L_l_source C_l_source K_l_source, b_l_source := (fun_mk (st := s_l_source) L_l_source C_l_source K_l_source).binds (ps := p_l_source) (fun _ _ _ _ _ _ us hl => match us, hl with | [_], _ => rfl), m_l_source := PySem.W.mg_of X G A_l_source,
    a_l_pick := f_l_pick, d_l_pick := _, F_l_pick := fun_mk (st := s_l_pick) L_l_pick C_l_pick K_l_pick, b_l_pick := (fun_mk (st := s_l_pick) L_l_pick C_l_pick K_l_pick).binds (ps := p_l_pick) (fun _ _ _ _ _ _ us hl => match us, hl with | [_, _], _ => rfl), m_l_pick := PySem.W.mg_of X G A_l_pick,
    a_l_one := f_l_one, d_l_one := _, F_l_one := fun_mk (st := s_l_one) L_l_one C_l_one K_l_one, b_l_one := (fun_mk (st := s_l_one) L_l_one C_l_one K_l_one).binds (ps := p_l_one) (fun _ _ _ _ _ _ us hl => match us, hl with | [_, _], _ => rfl), m_l_one := PySem.W.mg_of X G A_l_one,
    a_l_names := f_l_names, d_l_names := _, F_l_names := fun_mk (st := s_l_names) L_l_names C_l_names K_l_names, b_l_names := (fun_mk (st := s_l_names) L_l_names C_l_names K_l_names).binds (ps := p_l_names) (fun _ _ _ _ _ _ us hl => match us, hl with | [_], _ => rfl), m_l_names := PySem.W.mg_of X G A_l_names,
    a_l_far := f_l_far, d_l_far := _, F_l_far := fun_mk (st := s_l_far) L_l_far C_l_far K_l_far, b_l_far := (fun_mk (st := s_l_far) L_l_far C_l_far K_l_far).binds (ps := p_l_far) (fun _ _ _ _ _ _ us hl => match us, hl with | [_], _ => rfl), m_l_far := PySem.W.mg_of X G A_l_far,
    a_l_words := f_l_words, d_l_words := _, F_l_words := fun_mk (st := s_l_words) L_l_words C_l_words K_l_words, b_l_words := (fun_mk (st := s_l_words) L_l_words C_l_words K_l_words).binds (ps := p_l_words) (fun _ _ _ _ _ _ us hl => match us, hl with | [_], _ => rfl), m_l_words := PySem.W.mg_of X G A_l_words,
    a_l_order := f_l_order, d_l_order := _, F_l_order := fun_mk (st := s_l_order) L_l_order C_l_order K_l_order, b_l_order := (fun_mk (st := s_l_order) L_l_order C_l_order K_l_order).binds (ps := p_l_order) (fun _ _ _ _ _ _ us hl => match us, hl with | [_, _], _ => rfl), m_l_order := PySem.W.mg_of X G A_l_order,
    a_l_number := f_l_number, d_l_number := _, F_l_number := fun_mk (st := s_l_number) L_l_number C_l_number K_l_number, b_l_number := (fun_mk (st := s_l_number) L_l_number C_l_number K_l_number).binds (ps := p_l_number) (fun _ _ _ _ _ _ us hl => match us, hl with | [_, _, _], _ => rfl), m_l_number := PySem.W.mg_of X G A_l_number,
    a_l_known := f_l_known, d_l_known := _, F_l_known := fun_mk (st := s_l_known) L_l_known C_l_known K_l_known, b_l_known := (fun_mk (st := s_l_known) L_l_known C_l_known K_l_known).binds (ps := p_l_known) (fun _ _ _ _ _ _ us hl => match us, hl with | [_, _, _], _ => rfl), m_l_known := PySem.W.mg_of X G A_l_known,
    a_l_cloud := f_l_cloud, d_l_cloud := _, F_l_cloud := fun_mk (st := s_l_cloud) L_l_cloud C_l_cloud K_l_cloud, b_l_cloud := (fun_mk (st := s_l_cloud) L_l_cloud C_l_cloud K_l_cloud).binds (ps := p_l_cloud) (fun _ _ _ _ _ _ us hl => match us, hl with | [_, _], _ => rfl), m_l_cloud := PySem.W.mg_of X G A_l_cloud,
    a_l_drawn_form := f_l_drawn_form, d_l_drawn_form := _, F_l_drawn_form := fun_mk (st := s_l_drawn_form) L_l_drawn_form C_l_drawn_form K_l_drawn_form, b_l_drawn_form := (fun_mk (st := s_l_drawn_form) L_l_drawn_form C_l_drawn_form K_l_drawn_form).binds (ps := p_l_drawn_form) (fun _ _ _ _ _ _ us hl => match us, hl with | [_, _], _ => rfl), m_l_drawn_form := PySem.W.mg_of X G A_l_drawn_form,
    a_l_box := f_l_box, d_l_box := _, F_l_box := fun_mk (st := s_l_box) L_l_box C_l_box K_l_box, b_l_box := (fun_mk (st := s_l_box) L_l_box C_l_box K_l_box).binds (ps := p_l_box) (fun _ _ _ _ _ _ us hl => match us, hl with | [_], _ => rfl), m_l_box := PySem.W.mg_of X G A_l_box,
    a_l_value := f_l_value, d_l_value := _, F_l_value := fun_mk (st := s_l_value) L_l_value C_l_value K_l_value, b_l_value := (fun_mk (st := s_l_value) L_l_value C_l_value K_l_value).binds (ps := p_l_value) (fun _ _ _ _ _ _ us hl => match us, hl with | [_, _], _ => rfl), m_l_value := PySem.W.mg_of X G A_l_value,
    a_l_has := f_l_has, d_l_has := _, F_l_has := fun_mk (st := s_l_has) L_l_has C_l_has K_l_has, b_l_has := (fun_mk (st := s_l_has) L_l_has C_l_has K_l_has).binds (ps := p_l_has) (fun _ _ _ _ _ _ us hl => match us, hl with | [_, _], _ => rfl), m_l_has := PySem.W.mg_of X G A_l_has,
    a_l_spread := f_l_spread, d_l_spread := _, F_l_spread := fun_mk (st := s_l_spread) L_l_spread C_l_spread K_l_spread, b_l_spread := (fun_mk (st := s_l_spread) L_l_spread C_l_spread K_l_spread).binds (ps := p_l_spread) (fun _ _ _ _ _ _ us hl => match us, hl with | [_, _], _ => rfl), m_l_spread := PySem.W.mg_of X G A_l_spread,
    a_l_corners := f_l_corners, d_l_corners := _, F_l_corners := fun_mk (st := s_l_corners) L_l_corners C_l_corners K_l_corners, b_l_corners := (fun_mk (st := s_l_corners) L_l_corners C_l_corners K_l_corners).binds (ps := p_l_corners) (fun _ _ _ _ _ _ us hl => match us, hl with | [_, _, _, _], _ => rfl), m_l_corners := PySem.W.mg_of X G A_l_corners,
    a_l_form := f_l_form, d_l_form := _, F_l_form := fun_mk (st := s_l_form) L_l_form C_l_form K_l_form, b_l_form := (fun_mk (st := s_l_form) L_l_form C_l_form K_l_form).binds (ps := p_l_form) (fun _ _ _ _ _ _ us hl => match us, hl with | [_, _, _, _], _ => rfl), m_l_form := PySem.W.mg_of X G A_l_form,
    a_l_add := f_l_add, d_l_add := _, F_l_add := fun_mk (st := s_l_add) L_l_add C_l_add K_l_add, b_l_add := (fun_mk (st := s_l_add) L_l_add C_l_add K_l_add).binds (ps := p_l_add) (fun _ _ _ _ _ _ us hl => match us, hl with | [_, _, _, _, _, _], _ => rfl), m_l_add := PySem.W.mg_of X G A_l_add,
    a_l_values_at := f_l_values_at, d_l_values_at := _, F_l_values_at := fun_mk (st := s_l_values_at) L_l_values_at C_l_values_at K_l_values_at, b_l_values_at := (fun_mk (st := s_l_values_at) L_l_values_at C_l_values_at K_l_values_at).binds (ps := p_l_values_at) (fun _ _ _ _ _ _ us hl => match us, hl with | [_, _, _], _ => rfl), m_l_values_at := PySem.W.mg_of X G A_l_values_at,
    a_l_same := f_l_same, d_l_same := _, F_l_same := fun_mk (st := s_l_same) L_l_same C_l_same K_l_same, b_l_same := (fun_mk (st := s_l_same) L_l_same C_l_same K_l_same).binds (ps := p_l_same) (fun _ _ _ _ _ _ us hl => match us, hl with | [_, _], _ => rfl), m_l_same := PySem.W.mg_of X G A_l_same,
    a_l_kept := f_l_kept, d_l_kept := _, F_l_kept := fun_mk (st := s_l_kept) L_l_kept C_l_kept K_l_kept, b_l_kept := (fun_mk (st := s_l_kept) L_l_kept C_l_kept K_l_kept).binds (ps := p_l_kept) (fun _ _ _ _ _ _ us hl => match us, hl with | [_, _], _ => rfl), m_l_kept := PySem.W.mg_of X G A_l_kept,
    a_l_asked := f_l_asked, d_l_asked := _, F_l_asked := fun_mk (st := s_l_asked) L_l_asked C_l_asked K_l_asked, b_l_asked := (fun_mk (st := s_l_asked) L_l_asked C_l_asked K_l_asked).binds (ps := p_l_asked) (fun _ _ _ _ _ _ us hl => match us, hl with | [_, _, _, _], _ => rfl), m_l_asked := PySem.W.mg_of X G A_l_asked,
    a_law := fa, d_law := _, F_law := fun_mk (st := s_law) L_law C_law K_law, b_law := (fun_mk (st := s_law) L_law C_law K_law).binds (ps := p_law) (fun _ _ _ _ _ _ us hl => match us, hl with | [_], _ => rfl), m_law := PySem.W.mg_of X G A_law,
    z_any := PySem.W.mg_none_of X G Z_any,
    z_bool := PySem.W.mg_none_of X G Z_bool,
    z_dict := PySem.W.mg_none_of X G Z_dict,
    z_enumerate := PySem.W.mg_none_of X G Z_enumerate,
    z_int := PySem.W.mg_none_of X G Z_int,
    z_isinstance := PySem.W.mg_none_of X G Z_isinstance,
    z_len := PySem.W.mg_none_of X G Z_len,
    z_list := PySem.W.mg_none_of X G Z_list,
    z_max := PySem.W.mg_none_of X G Z_max,
    z_min := PySem.W.mg_none_of X G Z_min,
    z_range := PySem.W.mg_none_of X G Z_range,
    z_sorted := PySem.W.mg_none_of X G Z_sorted,
    z_str := PySem.W.mg_none_of X G Z_str,
    z_sum := PySem.W.mg_none_of X G Z_sum,
    z_tuple := PySem.W.mg_none_of X G Z_tuple,
    z_zip := PySem.W.mg_none_of X G Z_zip }
  refine ⟨PySem.W.fnOf "law" "law" (defArgs s_law) (defBody s_law) (defScope s_law) .none kV_law dc_law pm_law an_law cd_law ct_law, fun s v => .of_eq rfl, fun base _ _ => ok_law T⟩
theorem walk {l : PySem.W.OpenLaw} {q : Program} {loose : List Str} {XP : (Str → Option Value) → Heap → Prop} {YP : World → Heap → Prop} {d : DefRec} {K : Params → PySem.W.Frag} (hn : l.most = some 63) (hdf : d.params.defaults = [])
    (hY : ∀ (w : World) (h : Heap), YP w h → (K w.params).In h)
    (F : ∀ (w : World) (mg : Str → Option Value) (fa : Addr) (h : Heap), (K w.params).In h → h.Ns mainGlobals mg → mg d.name = some (.ref fa) →
      ∃ fd : FuncData, (∀ (s : Shared) (u : Value), BindsTo s fd ⟨[u], []⟩ [("_law_script", u)]) ∧ ∀ base : Heap, (K w.params).In base → base.Ns mainGlobals mg → FnOk l.prog w (K w.params) mg base CX0 43 fa fd ["_law_script"] (spLaw (K w.params))) :
    PySem.W.WalkO q loose XP YP l.row.toRowW d [] (fun f vs => PySem.call f vs) :=
  L2.walk_of (n := 63) (k := 43) (x := "_law_script") (CX := fun _ => CX0) (sp := fun w => spLaw (K w.params)) hn (by decide) hdf ⟨rfl, by decide, by decide⟩ hY F (fun _ _ a ns hl _ hS => ⟨a, ns, rfl, hS, hl, fun _ => rfl⟩) fun _ _ _ _ _ z => z
end Mine
open PySem PySem.W PyProof.Rows
set_option maxRecDepth 100000 in
set_option maxHeartbeats 0 in
theorem PySem.Challenge.cw_neverhappens_k23_form_of_holds : PySem.Challenge.rw_neverhappens_k23_form_of.Holds := by
  w_on; o_law; k_head; (case hw => w_witness2)
  k_fill
  refine Mine.walk (l := PySem.Challenge.rw_neverhappens_k23_form_of) rfl rfl (fun w h Y => PySem.W.kIn_of Y) ?F
  case F =>
    intro w mg fa h KX G hmg
    refine' Mine.all_mk KX G hmg ?A_range_of ?L_range_of ?C_range_of ?K_range_of ?A_constant_form ?L_constant_form ?C_constant_form ?K_constant_form ?A_column_form ?L_column_form ?C_column_form ?K_column_form ?A_sum_of_forms ?L_sum_of_forms ?C_sum_of_forms ?K_sum_of_forms ?A_form_times ?L_form_times ?C_form_times ?K_form_times ?A_difference_of_forms ?L_difference_of_forms ?C_difference_of_forms ?K_difference_of_forms ?A_used_columns ?L_used_columns ?C_used_columns ?K_used_columns ?A_difference_columns ?L_difference_columns ?C_difference_columns ?K_difference_columns ?A_range_of_form ?L_range_of_form ?C_range_of_form ?K_range_of_form ?A_occurs ?L_occurs ?C_occurs ?K_occurs ?A_form_of ?L_form_of ?C_form_of ?K_form_of ?A_product_form ?L_product_form ?C_product_form ?K_product_form ?A_l_cell ?L_l_cell ?C_l_cell ?K_l_cell ?A_l_source ?L_l_source ?C_l_source ?K_l_source ?A_l_pick ?L_l_pick ?C_l_pick ?K_l_pick ?A_l_one ?L_l_one ?C_l_one ?K_l_one ?A_l_names ?L_l_names ?C_l_names ?K_l_names ?A_l_far ?L_l_far ?C_l_far ?K_l_far ?A_l_words ?L_l_words ?C_l_words ?K_l_words ?A_l_order ?L_l_order ?C_l_order ?K_l_order ?A_l_number ?L_l_number ?C_l_number ?K_l_number ?A_l_known ?L_l_known ?C_l_known ?K_l_known ?A_l_cloud ?L_l_cloud ?C_l_cloud ?K_l_cloud ?A_l_drawn_form ?L_l_drawn_form ?C_l_drawn_form ?K_l_drawn_form ?A_l_box ?L_l_box ?C_l_box ?K_l_box ?A_l_value ?L_l_value ?C_l_value ?K_l_value ?A_l_has ?L_l_has ?C_l_has ?K_l_has ?A_l_spread ?L_l_spread ?C_l_spread ?K_l_spread ?A_l_corners ?L_l_corners ?C_l_corners ?K_l_corners ?A_l_form ?L_l_form ?C_l_form ?K_l_form ?A_l_add ?L_l_add ?C_l_add ?K_l_add ?A_l_values_at ?L_l_values_at ?C_l_values_at ?K_l_values_at ?A_l_same ?L_l_same ?C_l_same ?K_l_same ?A_l_kept ?L_l_kept ?C_l_kept ?K_l_kept ?A_l_asked ?L_l_asked ?C_l_asked ?K_l_asked ?A_law ?L_law ?C_law ?K_law ?Z_any ?Z_bool ?Z_dict ?Z_enumerate ?Z_int ?Z_isinstance ?Z_len ?Z_list ?Z_max ?Z_min ?Z_range ?Z_sorted ?Z_str ?Z_sum ?Z_tuple ?Z_zip
    (case A_range_of => k_is)
    (case L_range_of => k_is)
    (case C_range_of => k_is)
    (case K_range_of => k_is)
    (case A_constant_form => k_is)
    (case L_constant_form => k_is)
    (case C_constant_form => k_is)
    (case K_constant_form => k_is)
    (case A_column_form => k_is)
    (case L_column_form => k_is)
    (case C_column_form => k_is)
    (case K_column_form => k_is)
    (case A_sum_of_forms => k_is)
    (case L_sum_of_forms => k_is)
    (case C_sum_of_forms => k_is)
    (case K_sum_of_forms => k_is)
    (case A_form_times => k_is)
    (case L_form_times => k_is)
    (case C_form_times => k_is)
    (case K_form_times => k_is)
    (case A_difference_of_forms => k_is)
    (case L_difference_of_forms => k_is)
    (case C_difference_of_forms => k_is)
    (case K_difference_of_forms => k_is)
    (case A_used_columns => k_is)
    (case L_used_columns => k_is)
    (case C_used_columns => k_is)
    (case K_used_columns => k_is)
    (case A_difference_columns => k_is)
    (case L_difference_columns => k_is)
    (case C_difference_columns => k_is)
    (case K_difference_columns => k_is)
    (case A_range_of_form => k_is)
    (case L_range_of_form => k_is)
    (case C_range_of_form => k_is)
    (case K_range_of_form => k_is)
    (case A_occurs => k_is)
    (case L_occurs => k_is)
    (case C_occurs => k_is)
    (case K_occurs => k_is)
    (case A_form_of => k_is)
    (case L_form_of => k_is)
    (case C_form_of => k_is)
    (case K_form_of => k_is)
    (case A_product_form => k_is)
    (case L_product_form => k_is)
    (case C_product_form => k_is)
    (case K_product_form => k_is)
    (case A_l_cell => k_is)
    (case L_l_cell => k_is)
    (case C_l_cell => k_is)
    (case K_l_cell => k_is)
    (case A_l_source => k_is)
    (case L_l_source => k_is)
    (case C_l_source => k_is)
    (case K_l_source => k_is)
    (case A_l_pick => k_is)
    (case L_l_pick => k_is)
    (case C_l_pick => k_is)
    (case K_l_pick => k_is)
    (case A_l_one => k_is)
    (case L_l_one => k_is)
    (case C_l_one => k_is)
    (case K_l_one => k_is)
    (case A_l_names => k_is)
    (case L_l_names => k_is)
    (case C_l_names => k_is)
    (case K_l_names => k_is)
    (case A_l_far => k_is)
    (case L_l_far => k_is)
    (case C_l_far => k_is)
    (case K_l_far => k_is)
    (case A_l_words => k_is)
    (case L_l_words => k_is)
    (case C_l_words => k_is)
    (case K_l_words => k_is)
    (case A_l_order => k_is)
    (case L_l_order => k_is)
    (case C_l_order => k_is)
    (case K_l_order => k_is)
    (case A_l_number => k_is)
    (case L_l_number => k_is)
    (case C_l_number => k_is)
    (case K_l_number => k_is)
    (case A_l_known => k_is)
    (case L_l_known => k_is)
    (case C_l_known => k_is)
    (case K_l_known => k_is)
    (case A_l_cloud => k_is)
    (case L_l_cloud => k_is)
    (case C_l_cloud => k_is)
    (case K_l_cloud => k_is)
    (case A_l_drawn_form => k_is)
    (case L_l_drawn_form => k_is)
    (case C_l_drawn_form => k_is)
    (case K_l_drawn_form => k_is)
    (case A_l_box => k_is)
    (case L_l_box => k_is)
    (case C_l_box => k_is)
    (case K_l_box => k_is)
    (case A_l_value => k_is)
    (case L_l_value => k_is)
    (case C_l_value => k_is)
    (case K_l_value => k_is)
    (case A_l_has => k_is)
    (case L_l_has => k_is)
    (case C_l_has => k_is)
    (case K_l_has => k_is)
    (case A_l_spread => k_is)
    (case L_l_spread => k_is)
    (case C_l_spread => k_is)
    (case K_l_spread => k_is)
    (case A_l_corners => k_is)
    (case L_l_corners => k_is)
    (case C_l_corners => k_is)
    (case K_l_corners => k_is)
    (case A_l_form => k_is)
    (case L_l_form => k_is)
    (case C_l_form => k_is)
    (case K_l_form => k_is)
    (case A_l_add => k_is)
    (case L_l_add => k_is)
    (case C_l_add => k_is)
    (case K_l_add => k_is)
    (case A_l_values_at => k_is)
    (case L_l_values_at => k_is)
    (case C_l_values_at => k_is)
    (case K_l_values_at => k_is)
    (case A_l_same => k_is)
    (case L_l_same => k_is)
    (case C_l_same => k_is)
    (case K_l_same => k_is)
    (case A_l_kept => k_is)
    (case L_l_kept => k_is)
    (case C_l_kept => k_is)
    (case K_l_kept => k_is)
    (case A_l_asked => k_is)
    (case L_l_asked => k_is)
    (case C_l_asked => k_is)
    (case K_l_asked => k_is)
    (case A_law => k_is)
    (case L_law => k_is)
    (case C_law => k_is)
    (case K_law => k_is)
    (case Z_any => k_is)
    (case Z_bool => k_is)
    (case Z_dict => k_is)
    (case Z_enumerate => k_is)
    (case Z_int => k_is)
    (case Z_isinstance => k_is)
    (case Z_len => k_is)
    (case Z_list => k_is)
    (case Z_max => k_is)
    (case Z_min => k_is)
    (case Z_range => k_is)
    (case Z_sorted => k_is)
    (case Z_str => k_is)
    (case Z_sum => k_is)
    (case Z_tuple => k_is)
    (case Z_zip => k_is)
#print axioms PySem.Challenge.cw_neverhappens_k23_form_of_holds
